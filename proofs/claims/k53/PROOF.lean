import PyProof.Rows.All
import Wide.All
import OpenK.AllK
import Wide.FinOn
import HandS.ForExc
import HandS.ExcInit
import HandS.IsInst
import HandS.MakeKw
import KE.KExcInit
import KE.KExcIs
import HandS.ForMost
import HandS.Ends
import HandS.EndBits
import PyProof.ReprRoads
import HandS.Wide
import HandS.Steps
import HandS.Style
import HandS.TupAny
import HandS.StrMore
import HandS.Zip
import HandS.Flow
import HandS.Star
import HandS.Conv
import HandS.Property
import KE.KUnpackStar
import KE.GoesEnum
import HandS.Gcd
import HandS.WideBits
import PyProof.ListStr
import HandS.SetFor
import HandS.Strs
import PyProof.ListNew
import HandS.Defaults
import HandS.Walk
import PySem.Challenge.RW_likelybook_k53_whole_sayings_of_orders
set_option Elab.async false
set_option linter.all false
set_option maxRecDepth 100000
set_option maxHeartbeats 4000000
namespace Xv
open PySem PySem.W PySem.Calls PyProof.Rows PySem.HandSPX
section
variable {M : Model} {A : Around} {E : Value → Shared → Prop} {h : Heap} {g : Array GenState} {d : Drawn} {t : Nat} {os : OsState}
variable {nm q : Str} {C N : Addr} {bs bm bmB : List Value} {hdct : Bool} {sn : List Str} {sub : List Value} {ab : Bool} {col : Option Bool} {dd : Option Addr} {k0 k1 k2 k3 k5 : Option Value} {B newId initId : String}
theorem chk_new (F : ExcBaseFacts B newId initId bmB) (hT : ∀ X : String, bm.contains (.type X) = bmB.contains (.type X)) {rest : List Value} {kw : List (Str × Value)} {Q : Unit → Shared → Prop}
    (hC : h.get? C = some (excClassObj nm q C N bs bm hdct sn sub ab col dd k0 k1 k2 k3 k5 newId)) (hq : Q () ⟨h, g, d, t, os⟩) :
    wpAny M A (checkBuiltinCall newId ⟨.ref C :: rest, kw⟩) Q E ⟨h, g, d, t, os⟩ := by
  have hc1 : (Value.ref C :: bm).contains (.type B) = true := by rw [List.contains_cons, hT, F.hasB, Bool.or_true]
  have hs1 := F.noStar
  simp only [checkBuiltinCall, F.newKind, F.newSplit, F.newRow]
  repeat (first
    | refine wpAny_loadPart_at hC ?_
    | (refine wpAny_isSubtype_exc hC ?_; rw [hc1])
    | refine wpAny_staticBase_exc hC ?_
    | refine wpAny_madeBy_exc hC ?_
    | simp only [bne_self_eq_false, Bool.false_eq_true, if_false]
    | wp_step)

  exact hq
end
section
variable {prog : Program} {w : World} {A : Around} {E : Value → Shared → Prop} {R : Result → Shared → Prop} {h : Heap} {g : Array GenState} {d : Drawn} {t : Nat} {os : OsState}
variable {nm q : Str} {C N : Addr} {bs bm bmB : List Value} {hdct : Bool} {sn : List Str} {sub : List Value} {ab : Bool} {col : Option Bool} {dd : Option Addr} {k0 k1 k2 k3 k5 : Option Value} {B newId initId : String}
theorem run_new (F : ExcBaseFacts B newId initId bmB) (hT : ∀ X : String, bm.contains (.type X) = bmB.contains (.type X)) {rest : List Value} {kw : List (Str × Value)}
    (hC : h.get? C = some (excClassObj nm q C N bs bm hdct sn sub ab col dd k0 k1 k2 k3 k5 newId)) (hz : rest.length ≤ sizeLine)
    (hq : R (.ok (.ret (.ref (h.objs.size + 1)))) ⟨(h.push (kdv_tup rest)).push (excO C h.objs.size), g, d, t, os⟩) :
    codeAny (model prog w) A (.builtin newId ⟨.ref C :: rest, kw⟩) R ⟨h, g, d, t, os⟩ := by
  have he1 := F.ends
  have c1 : (Value.ref C :: bm).contains (.type B) = true := by rw [List.contains_cons, hT, F.hasB, Bool.or_true]
  have c2 : (Value.ref C :: bm).contains (.type "AttributeError") = false := by rw [List.contains_cons, hT, F.noAttr]; rfl
  have c3 : (Value.ref C :: bm).contains (.type "NameError") = false := by rw [List.contains_cons, hT, F.noName]; rfl
  refine codeAny_builtinAt F.entry ?_
  unfold Builtin.«BaseException.__new__»
  refine PySem.wpAt_bind ?_
  show PySem.wpAt _ _ _ (stack >>= _) _ _ _
  refine PySem.wpAt_bind (PySem.wpAt_stack fun p below => PySem.wpAt_of_wpAny ?_)
  wp_walk
  refine PySem.wpAt_of_wpAny ?_
  rw [F.owner]
  repeat (first
    | with_reducible refine wpAny_madeHere_exc F.canon hC ?_
    | with_reducible refine wpAny_loadPart_at hC ?_
    | (with_reducible refine wpAny_isSubtype_exc hC ?_; first | rw [c1] | rw [c2] | rw [c3])
    | wp_step)
  show R _ _
  rw [Heap.size_push]
  exact hq
theorem run_tcall (F : ExcBaseFacts B newId initId bmB) (hT : ∀ X : String, bm.contains (.type X) = bmB.contains (.type X)) {rest : List Value} {kw : List (Str × Value)} {fI : Addr} {Q : Fin → Shared → Prop}
    (hC : h.get? C = some (excClassObj nm q C N bs bm hdct sn sub ab col dd k0 k1 k2 k3 k5 newId)) 
    (hi : W.Looks (model prog w) h (typeLookup (.ref C) "__init__") (some (.ref fI)))
    (hb : ∀ self, W.Looks (model prog w) h (bindSpecial (.ref fI) self) (.ref fI, [self])) (hz : rest.length ≤ sizeLine)
    (hq : codeAny (model prog w) A (.call (.ref fI) ⟨.ref (h.objs.size + 1) :: rest, kw⟩)
      (fun r s' => match r with
        | .ok (.ret v) => v = .none ∧ Q (.done (.ret (.ref (h.objs.size + 1)))) s'
        | .ok _ => False
        | .error e => E e s')
      ⟨(h.push (kdv_tup rest)).push (excO C h.objs.size), g, d, t, os⟩) :
    wpAny (model prog w) A (Builtin.«type.__call__» ⟨.ref C :: rest, kw⟩) Q E ⟨h, g, d, t, os⟩ := by
  repeat (first
    | with_reducible refine wpAny_loadPart_at hC ?_
    | with_reducible refine wpAny_madeBy_exc hC ?_
    | wp_step)
  refine codeAny_call_builtin_code (Code.quiet_builtin _ F.quiet) (chk_new F hT hC ?_)
  refine run_new F hT hC hz ?_
  show wpAny _ _ _ _ _ _
  have k : ∀ b o, h.get? b = some o → ((h.push (kdv_tup rest)).push (excO C h.objs.size)).get? b = some o := fun b o e =>
    Heap.get?_push_of_some _ (Heap.get?_push_of_some _ e)
  have hC1 := k _ _ hC
  have hg1 : ((h.push (kdv_tup rest)).push (excO C h.objs.size)).get? (h.objs.size + 1) = some (excO C h.objs.size) := by heap_get
  have cC : (Value.ref C :: bm).contains (.ref C) = true := by simp
  have i1 := hi.keeps k
  have b1 := (hb (.ref (h.objs.size + 1))).keeps k
  unfold isInstance
  repeat (first
    | with_reducible refine wpAny_loadPart_at hg1 ?_
    | (with_reducible refine wpAny_isSubtype_exc hC1 ?_; rw [cC])
    | wp_step)
  show wpAny _ _ (typeLookup (.ref C) _) _ _ _
  refine i1.at ?_
  refine wpAny_holding (wpAny_bind (b1.at ?_))
  refine wpAny_bind (wpAny_call (codeAny_mono hq fun r s' z => ?_))
  rcases r with e | (v | _ | _ | _) <;> first | exact z | exact z.elim | skip
  obtain ⟨rfl, z⟩ := z
  first
    | exact wpAny_pure (wpAny_pure z)
    | (wp_walk; exact z)
theorem run_ccall (F : ExcBaseFacts B newId initId bmB) (hT : ∀ X : String, bm.contains (.type X) = bmB.contains (.type X)) {rest : List Value} {kw : List (Str × Value)} {fI : Addr}
    (hC : h.get? C = some (excClassObj nm q C N bs bm hdct sn sub ab col dd k0 k1 k2 k3 k5 newId))
    (hi : W.Looks (model prog w) h (typeLookup (.ref C) "__init__") (some (.ref fI)))
    (hb : ∀ self, W.Looks (model prog w) h (bindSpecial (.ref fI) self) (.ref fI, [self])) (hz : rest.length ≤ sizeLine)
    (hq : codeAny (model prog w) (A.under (.builtin "type.__call__" ⟨.ref C :: rest, kw⟩)) (.call (.ref fI) ⟨.ref (h.objs.size + 1) :: rest, kw⟩) (W.InitBack (h.objs.size + 1) R)
      ⟨(h.push (kdv_tup rest)).push (excO C h.objs.size), g, d, t, os⟩) :
    codeAny (model prog w) A (.call (.ref C) ⟨rest, kw⟩) R ⟨h, g, d, t, os⟩ := by
  have f1 := tc_lookup
  have f2 := tc_bind (.ref C)
  have hTy : (⟨h, g, d, t, os⟩ : Shared).TypeIs (.ref C) "type" := ⟨_, hC, rfl⟩
  refine codeAny_of_tree ?_
  show wpAny _ _ (callAny (.ref C) _) _ _ _
  repeat (any_goals (first
    | assumption
    | with_reducible refine wpAny_loadPart_at hC ?_
    | wp_step))
  refine ⟨rfl, ?_⟩
  refine codeAny_call_builtin_at (Code.quiet_builtin _ (by decide +kernel)) entry_typeCall (wpAny_check_type_call_sub hC (run_tcall F hT hC hi hb hz ?_))
  refine codeAny_mono hq fun r s' z => ?_
  rcases r with e | (v | _ | _ | _) <;> exact z
end
end Xv

set_option maxRecDepth 100000
set_option maxHeartbeats 4000000
namespace Xv
open PySem PySem.Spec PyProof.Rows L2
/-! what the written part says of an own exception class at C -/
def xcB (K : PySem.W.Frag) (C : Addr) (bmB : List Value) (newId : String) : Bool :=
  PySem.W.excInitIn K C bmB newId && (PySem.W.hasDictIn K C &&
  (decide (PySem.W.findIn K (.ref C) "__setattr__" = some (some (.builtin "object.__setattr__"))) &&
  (decide (PySem.W.findIn K (.ref C) "__getattribute__" = some (some (.builtin "BaseException.__getattribute__"))) &&
  (decide (PySem.W.findIn K (.ref C) "__getattr__" = some none) &&
  (decide (PySem.W.subIn K (.ref C) (.type "BaseException") = some true) &&
  (decide (PySem.W.typeIn K (.ref C) = some (.type "type")) &&
  (PySem.W.keepIn K (.ref C) &&
  (decide (PySem.W.findIn K (.ref C) "__class__" = some (some (.builtin "object.__class__"))) &&
  decide (PySem.W.mroIn K C (.type "object") = some true)))))))))
structure XC (K : PySem.W.Frag) (C : Addr) (bmB : List Value) (newId : String) : Prop where
  mkk : PySem.W.excInitIn K C bmB newId = true
  hd : PySem.W.hasDictIn K C = true
  sa : PySem.W.findIn K (.ref C) "__setattr__" = some (some (.builtin "object.__setattr__"))
  ga : PySem.W.findIn K (.ref C) "__getattribute__" = some (some (.builtin "BaseException.__getattribute__"))
  gg : PySem.W.findIn K (.ref C) "__getattr__" = some none
  exC : PySem.W.subIn K (.ref C) (.type "BaseException") = some true
  tyC : PySem.W.typeIn K (.ref C) = some (.type "type")
  kC : PySem.W.keepIn K (.ref C) = true
  ca : PySem.W.findIn K (.ref C) "__class__" = some (some (.builtin "object.__class__"))
  ob : PySem.W.mroIn K C (.type "object") = some true
theorem xc_of {K : PySem.W.Frag} {C : Addr} {bmB : List Value} {newId : String} (h : xcB K C bmB newId = true) : XC K C bmB newId := by
  unfold xcB at h
  simp only [Bool.and_eq_true, decide_eq_true_eq] at h
  obtain ⟨h1, h2, h3, h4, h5, h6, h7, h8, h9, h10⟩ := h
  exact ⟨h1, h2, h3, h4, h5, h6, h7, h8, h9, h10⟩
/-- the class object, as the library's rules want it -/
theorem XC.cls {K : PySem.W.Frag} {C : Addr} {bmB : List Value} {newId : String} (T : XC K C bmB newId) : ∃ nm q N bs bm sn sub ab col dd k0 k1 k2 k3 k5,
    K.lookup C = some (excClassObj nm q C N bs bm true sn sub ab col dd k0 k1 k2 k3 k5 newId) ∧ PySem.W.excTail bmB bm = true := by
  have q := T.mkk
  have hd := T.hd
  unfold PySem.W.excInitIn at q
  unfold PySem.W.hasDictIn PySem.W.clsIn at hd
  split at q
  · rename_i dd cd sl ho
    rw [ho] at hd
    split at q
    · rename_i C' bm k0 k1 k2 k3 n k5 hm hs
      simp only [Bool.and_eq_true, beq_iff_eq, Bool.not_eq_true'] at q
      obtain ⟨⟨⟨rfl, rfl⟩, hdel⟩, ht⟩ := q
      obtain ⟨nm, bs, mro, ns, qn, hdd, sn, sub, ab, col, del⟩ := cd
      simp only at hm hdel hd
      have hdd1 : hdd = true := by simpa using hd
      subst hm hdel hdd1
      have hsl : sl = #[k0, k1, k2, k3, some (.builtin n), k5] := by
        obtain ⟨l⟩ := sl
        simp only at hs
        rw [hs]
      subst hsl
      exact ⟨nm, qn, ns, bs, bm, sn, sub, ab, col, dd, k0, k1, k2, k3, k5, ho, ht⟩
    · cases q
  · cases q

section
variable {X : Cx} {pins : List (Addr × Obj)} {σ : L2.St} {H : Hp} {s : Shared} {a C dx : Addr} {f : Str} {y : V} {u : Value} {fs : List (Str × V)}
  {bmB : List Value} {B newId initId : String} {Q : Unit → Shared → Prop} {E : Value → Shared → Prop} {A : Around}
/-- Base.__init__(self, ..): nothing of it is told -/
theorem x_init {us : List Value} {Q : Value → Shared → Prop} (F : ExcBaseFacts B newId initId bmB) (T : XC X.K C bmB newId) (I : Inv X pins σ H s) (e : H a = some (exo a C none))
    (hl : us.length ≤ sizeLine) (h : ∀ s', Inv X pins σ H s' → Q .none s') : wpAny (model X.prog X.w) A (call (.builtin initId) (.ref a :: us)) Q E s := by
  obtain ⟨nm, q, N, bs, bm, sn, sub, ab, col, dd, k0, k1, k2, k3, k5, hC, hbm⟩ := T.cls
  obtain ⟨t1, ho⟩ := exo_at I.hok e
  obtain ⟨hp, g, d, t, os⟩ := s
  refine wpAny_call (PySem.HandSPX.init_base F (fun Y => PySem.W.excTail_contains Y bm hbm) (I.kIn _ _ hC) ho hl fun h' t2 k hx => ?_)
  have J := I.write (t' := t) (x := a) (e := a) (o := exo a C none) (by rw [e]; exact True.intro) (.inl rfl) k ⟨_, hx⟩ (exo_ok hx)
  have eu : upd H a (exo a C none) = H := by
    funext b
    by_cases hb : b = a
    · rw [hb, upd_same, e]
    · rw [upd_ne hb]
  rw [eu] at J
  exact h _ J
/-- object.__setattr__ on an exception: past the classes, to the own dict -/
theorem x_osa {R : Result → Shared → Prop} {hp : Heap} {g : Array GenState} {d : Drawn} {t : Nat} {os : OsState} {K : PySem.W.Frag} {name : Str} {tk : Tok} {v : Value} {x : Addr} {fv : Array Value} {prog : Program} {w : World}
    (SF : StoreFacts B bmB "object.__setattr__" "object") (T : XC K C bmB newId) (X : K.In hp) (hx : hp.get? x = some { cls := .ref C, data := .fields fv }) (ha : PySem.W.findIn K (.ref C) name = some none)
    (hq : ∀ h' tk' dx, (∀ b o, b ≠ x → hp.get? b = some o → h'.get? b = some o) → hp.objs.size ≤ dx → dx ≠ x → h'.get? x = some { cls := .ref C, dict := some dx, data := .fields fv } →
      h'.Ns1 dx (fun y => if y = name then some v else none) → R (.ok (.ret .none)) ⟨h', g, d, tk', os⟩) :
    codeAny (model prog w) A (.call (.builtin "object.__setattr__") ⟨[.ref x, .str name tk, v], []⟩) R ⟨hp, g, d, t, os⟩ := by
  have J : PySem.W.InstAt hp x { cls := .ref C, data := .fields fv } C none := ⟨hx, rfl, rfl, trivial⟩
  have hxs : x ≠ hp.objs.size := Nat.ne_of_lt (Heap.lt_size hx)
  obtain ⟨nm, q, N, bs, bm, sn, sub, ab, col, dd, k0, k1, k2, k3, k5, hC, hbm⟩ := T.cls
  have hcl : PySem.W.clsIn K C = some { name := nm, bases := bs, mro := .ref C :: bm, ns := N, qualname := q, hasDict := true, slotNames := sn, subclasses := sub, abstract := ab, collection := col, hasDel := false } := by
    unfold PySem.W.clsIn
    rw [hC]
  have hov : PySem.W.excOver K C bmB = true := by
    unfold PySem.W.excOver
    rw [hcl]
    simp [hbm]
  have htk : PySem.W.takerIn K C name = some none := by
    unfold PySem.W.takerIn
    rw [ha]
    rfl
  refine PySem.W.osa_openX (s := ⟨hp, g, d, t, os⟩) (r := none) SF X J hov htk fun b => ?_
  have hcls : PySem.W.Looks (model prog w) hp (classData C) _ := PySem.W.looks_clsIn X hcl
  show wpAny _ _ (Builtin.ObjectAttr.storeInOwnDict (.ref x) (.ref C) (.str name tk) name v b) _ _ _
  unfold Builtin.ObjectAttr.storeInOwnDict Builtin.ObjectAttr.ownDictForStores
  repeat (first
    | with_reducible refine PySem.HandSPX.store_in_new ?_ ?_
    | with_reducible refine wpAny_loadPart_at hx ?_
    | with_reducible refine hcls.at ?_
    | wp_step)
  · exact ⟨_, #[], _, (Heap.get?_update_ne _ _ _ _ hxs.symm).trans (Heap.get?_push_at rfl rfl), rfl, fun e he => absurd he (by simp), fun _ => rfl⟩
  · intro h' tk' hn' hs
    have hx1 : (hp.push { cls := .type "dict", data := .dict #[] }).get? x = some { cls := .ref C, data := .fields fv } := Heap.get?_push_of_some _ hx
    refine hq h' tk' hp.objs.size (fun b o hb ho => ?_) (Nat.le_refl _) hxs.symm ?_ hn'
    · exact (hs.2 b (Nat.ne_of_lt (Heap.lt_size ho))).trans ((Heap.get?_update_ne _ _ _ _ hb).trans (Heap.get?_push_of_some _ ho))
    · exact (hs.2 x hxs).trans (Heap.get?_update_self _ hx1 rfl)
end
end Xv

set_option maxRecDepth 100000
set_option maxHeartbeats 4000000
namespace Xv
open PySem PySem.Spec PyProof.Rows L2
section
variable {X : Cx} {pins : List (Addr × Obj)} {σ : L2.St} {H : Hp} {s : Shared} {a C : Addr} {f : Str} {y : V} {u : Value}
  {bmB : List Value} {B newId initId : String}
/-- self.f = y, the first field of an exception -/
theorem x_set {A : Around} {E : Value → Shared → Prop} {Q : Unit → Shared → Prop} (SF : StoreFacts B bmB "object.__setattr__" "object") (T : XC X.K C bmB newId) (I : Inv X pins σ H s)
    (e : H a = some (exo a C none)) (hno : PySem.W.findIn X.K (.ref C) f = some none) (ry : RelV y u)
    (h : ∀ dx s', H dx = none → dx ≠ a → Inv X pins σ (upd (upd H dx (exd dx [(f, y)])) a (exo a C (some dx))) s' → Q () s') :
    wpAny (model X.prog X.w) A (setAttr (.ref a) f u) Q E s := by
  obtain ⟨t1, ho⟩ := exo_at I.hok e
  obtain ⟨hp, g, d, t, os⟩ := s
  refine PySem.W.set_plain I.kIn (ox := _) (od := none) ⟨ho, rfl, rfl, trivial⟩ T.sa ?_
  refine x_osa SF T I.kIn ho hno (fun h' tk' dx k dn dne hx hn => ?_)
  have hnd : H dx = none := I.hok.fresh dn
  have nd : ∀ {b : Addr} {o : Obj}, hp.get? b = some o → b ≠ dx := fun {b o} q => Nat.ne_of_lt (Nat.lt_of_lt_of_le (Heap.lt_size q) dn)
  have na : ∀ {b : Addr}, H b = none → b ≠ a := fun {b} n z => by
    rw [z, e] at n
    cases n
  have U : Un X.fs [] H (upd (upd H dx (exd dx [(f, y)])) a (exo a C (some dx))) hp h' := by
    refine ⟨fun b o q n _ _ => k b o (na n) q, fun b o q n _ _ => ⟨o.slots, k b o (na n) q⟩, fun b o q n _ => ?_, fun b o q _ => ?_, fun b xs q => ?_, fun b o v q => ?_, fun b ps q => ⟨#[], ?_⟩⟩
    · rw [upd_ne (na n), upd_ne (nd q)]
      exact n
    · by_cases hb : b = a
      · exact ⟨_, by rw [hb]; exact hx⟩
      · exact ⟨o, k b o hb q⟩
    · rw [upd_ne (at_ne e q exo_tup), upd_ne (ne_of_none q hnd)]
      exact q
    · rw [upd_ne (at_ne e q exo_frz), upd_ne (ne_of_none q hnd)]
      exact q
    · rw [upd_ne (at_ne e q exo_tbl), upd_ne (ne_of_none q hnd), q]
      simp
  refine h dx _ hnd dne (I.un (t' := tk') U fun b o q => ?_)
  by_cases hb : b = a
  · subst hb
    rw [upd_same] at q
    cases q
    exact exo_ok hx
  · rw [upd_ne hb] at q
    by_cases hd : b = dx
    · subst hd
      rw [upd_same] at q
      cases q
      exact exd_ok hn (relO_put (fs := []) ry fun g => True.intro)
    · rw [upd_ne hd] at q
      refine (I.hok b o q).stay (fun c v hc z => k c v ?_ z) (fun c hc => ?_) (fun c xs hc => ?_)
      · rcases hc with hc | hc
        · rw [hc]
          exact hb
        · exact at_ne e hc exo_own
      · rw [upd_ne (at_ne e hc exo_own), upd_ne (ne_of_none hc hnd)]
        exact hc
      · rw [upd_ne (at_ne e hc exo_tup), upd_ne (ne_of_none hc hnd)]
        exact hc
/-! the readings -/
/-- Base.__init__(self, ..) in __init__ of the class at C -/
def tXi (C : Addr) (ta : TA) : TE := fun σ H Q => ta σ H fun vs H1 => ∃ (a : Addr) (ws : List V), vs = .ref a :: ws ∧ ws.length ≤ 1000 ∧ H1 a = some (exo a C none) ∧ Q .non H1
/-- self.f = e, the first field -/
def tXs (C : Addr) (f : Str) (to te : TE) : TS := fun D σ H => te σ H fun y H1 => to σ H1 fun x H2 => ∃ a : Addr, x = .ref a ∧ H2 a = some (exo a C none) ∧
  ∀ dx, H2 dx = none → dx ≠ a → D.nx σ (upd (upd H2 dx (exd dx [(f, y)])) a (exo a C (some dx)))
/-- what the base class at D (own) says of __init__ -/
structure XB (K : PySem.W.Frag) (D : Addr) (initId : String) : Prop where
  rd : PySem.W.readsIn K D (.type "type") = true
  gs : PySem.W.specialIn K (.ref D) "__getattribute__" = some (some (.builtin "type.__getattribute__"))
  hand : PySem.W.handedIn (.builtin initId) = true
  ini : PySem.W.findCls K (.ref D) (.type "type") "__init__" = some (.val (.builtin initId))
variable {o e : Expr} {es : List Expr} {to te : TE} {ta : TA} {p p' p1 p2 pos : Pos} {x : Str} {D : Addr}
theorem pe_xinit {pl : Sem Bool} (F : ExcBaseFacts B newId initId bmB) (T : XC X.K C bmB newId) (W : XB X.K D initId) (hg : Gl X x) (hm : X.mg x = some (.ref D)) (ha : PA X (e :: es) ta) (hdb : (x == ("__debug__" : Str)) = false := by decide)
    (hc : eval (.Call (.Attribute (.Name x p1) "__init__" p2) (e :: es) [] pos) X.env = (do
      let ov ← eval (.Name x p1) X.env
      standAt p2.atName
      let (f, first) ← holding [ov] (getMethod ov "__init__" pl)
      callWith pos f first (backTo pos (starEach (e :: es) X.env)) (backToKw pos (keywordEach [] X.env))) := by rfl)
    (he : starEach (e :: es) X.env = (false, eval e X.env) :: starEach es X.env := by rfl) (hpl : (backTo pos (starEach es X.env)).any (·.1) = false := by rfl) :
    PE X (.Call (.Attribute (.Name x p1) "__init__" p2) (e :: es) [] pos) (tXi C ta) := by
  refine ⟨fun pins s σ H Q I h => ?_⟩
  refine PySem.W.methodCall_KW (ld_glob I hg hm ?_ hdb) hc
  refine PySem.W.method_cls I.kIn W.gs (PySem.W.cls_value I.kIn W.rd W.ini W.hand ?_)
  show wpAny _ _ (callWith pos (Value.builtin initId) [] (backTo pos (starEach (e :: es) X.env)) []) _ _ _
  refine PyProof.Rows.callWith_method1 (thn (ha.run pos pins _ σ H _ (I.tok _) h) fun us s1 ⟨vs, H1, I1, r1, a, ws, ev, hl, ea, q⟩ => ?_) he hpl
  subst ev
  cases r1 with
  | @cons _ u0 _ ur ra rw' =>
    obtain rfl : u0 = Value.ref a := ra
    have hlen : ur.length ≤ sizeLine := by
      rw [← Paired.length rw', sizeLine_eq]
      omega
    exact x_init F T I1 ea hlen fun s' J => ⟨.non, H1, J, rfl, q⟩
theorem ps_xset (SF : StoreFacts B bmB "object.__setattr__" "object") (T : XC X.K C bmB newId) (hno : PySem.W.findIn X.K (.ref C) f = some none) (ho : PE X o to) (he : PE X e te)
    (hs : swapsWith e (some (.Attribute o f p')) pos.line X.env = pure false := by rfl) : PS X (.Assign [.Attribute o f p'] e pos) (tXs C f to te) := by
  refine ⟨fun pins s σ H D I h => ?_⟩
  refine plainObj_wpAny_Assign_Attribute (thn (he.run pins s σ H _ I h) fun v s1 ⟨y, H1, I1, r1, q1⟩ => thn (ho.run pins s1 σ H1 _ I1 q1) fun u s2 ⟨x, H2, I2, r2, a, ex, ea, q⟩ => ?_) hs
  subst ex
  obtain rfl : u = Value.ref a := r2
  exact x_set SF T I2 ea hno r1 fun dx s' n ne J => ⟨σ, _, J, q dx n ne⟩
end
/-! the promise of such an __init__, and the body that keeps it -/
def spXI (C : Addr) (f : Str) : Sp := fun vs H Q _ => ∃ (a : Addr) (v : V), vs = [.ref a, v] ∧ H a = some (exo a C none) ∧
  ∀ d, H d = none → d ≠ a → Q .non (upd (upd H d (exd d [(f, v)])) a (exo a C (some d)))
/-! the three built-in bases of this package -/
abbrev mroV : List Value := [.type "ValueError", .type "Exception", .type "BaseException", .type "object"]
abbrev mroL : List Value := [.type "LookupError", .type "Exception", .type "BaseException", .type "object"]
abbrev mroA : List Value := [.type "ArithmeticError", .type "Exception", .type "BaseException", .type "object"]
end Xv

set_option maxRecDepth 100000
set_option maxHeartbeats 4000000
namespace Xv
open PySem PySem.Spec PyProof.Rows L2
theorem kbn_of {K : PySem.W.Frag} {x qual : Str} {st : Stmt} {f : Addr} {fd : FuncData} {ps ks : List Str} {n : Nat} {g : List Value → List Value → List Value} {gV : List V → List V → List V} (F : Fun K x qual st f fd)
    (h : ∀ (kV doc pm : Value) (an : Option Addr) (cdv ct : Value) (us ws : List Value), us.length = n → ws.length = ks.length →
      bindArgs (PySem.W.fnOf x qual (defArgs st) (defBody st) (defScope st) .none kV doc pm an cdv ct) ⟨us, ks.zip ws⟩ = pure (ps.zip (g us ws)))
    (hrel : ∀ {vs : List V} {us : List Value} {zs : List V} {ws : List Value}, Vals vs us → Vals zs ws → Vals (gV vs zs) (g us ws)) : KBn K fd ps n ks g gV := by
  obtain ⟨oc, od, kV, doc, pm, an, cdv, ct, osl, rfl, lk, hcd⟩ := F.ex
  exact ⟨fun s us ws _ l1 l2 => .of_eq (h kV doc pm an cdv ct us ws l1 l2), hrel⟩
/-- C(e, .., k = v, ..), C an own exception class with an own __init__ that keeps sp: the exception as a value -/
def tXn (C : Addr) (n m : Nat) (sp : Sp) (gV : List V → List V → List V) (t tk : TA) : TE := fun σ H Q => t σ H fun vs H1 => tk σ H1 fun zs H2 => vs.length = n ∧ zs.length = m ∧
  ∀ a, H2 a = none → sp (gV (.ref a :: vs) zs) (upd H2 a (exo a C none)) (fun v H3 => v = .non ∧ Q (.ref a) H3) E0
section
variable {X : Cx} {k n : Nat} {fI C : Addr} {fd : FuncData} {ps ks : List Str} {sp : Sp} {x : Str} {p pos : Pos} {e : Expr} {es : List Expr} {kws : List Keyword} {t tk : TA} {g : List Value → List Value → List Value} {gV : List V → List V → List V}
  {bmB : List Value} {B newId initId : String}
structure XM (K : PySem.W.Frag) (C fI : Addr) : Prop where
  ini : PySem.W.findIn K (.ref C) "__init__" = some (some (.ref fI))
  ty : PySem.W.typeIn K (.ref fI) = some (.type "function")
theorem run_xn {pins : List (Addr × Obj)} {σ : L2.St} {H : Hp} {s : Shared} {Q : VK} {us ws : List Value} {vs zs : List V} (FB : ExcBaseFacts B newId initId bmB) (T : XC X.K C bmB newId) (M : XM X.K C fI)
    (F1 : FnOk X.prog X.w X.K X.mg X.base CX0 k fI fd ps sp) (hr : Room (k + 1) X.A) (hb : KBn X.K fd ps (n + 1) ks g gV)
    (I : Inv X pins σ H s) (r : Vals vs us) (rz : Vals zs ws) (l1 : vs.length = n) (l2 : zs.length = ks.length) (hn : n ≤ 1000)
    (h : ∀ a, H a = none → sp (gV (.ref a :: vs) zs) (upd H a (exo a C none)) (fun v H3 => v = .non ∧ Q (.ref a) H3) E0) :
    wpAny (model X.prog X.w) X.A (call (.ref C) us (ks.zip ws)) (EP X pins σ Q) X.xe s := by
  obtain ⟨nm, q, N, bs, bm, sn, sub, ab, col, dd, k0, k1, k2, k3, k5, hC, hbm⟩ := T.cls
  obtain ⟨hp, gs, dr, tok, os⟩ := s
  have hsz : hp.objs.size ≤ hp.objs.size + 1 := Nat.le_succ _
  have hq := h (hp.objs.size + 1) (I.hok.fresh hsz)
  have kk : ∀ b o, hp.get? b = some o → ((hp.push (PySem.W.kdv_tup us)).push (PySem.HandSPX.excO C hp.objs.size)).get? b = some o := fun b o e =>
    Heap.get?_push_of_some _ (Heap.get?_push_of_some _ e)
  have hget : ((hp.push (PySem.W.kdv_tup us)).push (PySem.HandSPX.excO C hp.objs.size)).get? (hp.objs.size + 1) = some (PySem.HandSPX.excO C hp.objs.size) := by heap_get
  have I2 : Inv X pins σ (upd H (hp.objs.size + 1) (exo (hp.objs.size + 1) C none)) ⟨(hp.push (PySem.W.kdv_tup us)).push (PySem.HandSPX.excO C hp.objs.size), gs, dr, tok, os⟩ :=
    I.laid (t' := tok) kk hsz (exo_ok hget)
  have ra : Vals (V.ref (hp.objs.size + 1) :: vs) (Value.ref (hp.objs.size + 1) :: us) := .cons rfl r
  have e1 : (Value.ref (hp.objs.size + 1) :: us).length = n + 1 := ra.length.symm.trans (congrArg Nat.succ l1)
  have e2 : ws.length = ks.length := rz.length.symm.trans l2
  have hus : us.length ≤ sizeLine := by
    rw [← Paired.length r, sizeLine_eq]
    omega
  refine wpAny_call (run_ccall FB (fun Y => PySem.W.excTail_contains Y bm hbm) (I.kIn _ _ hC) (PySem.W.looks_findIn I.kIn M.ini) (fun self => PySem.W.bind_fn I.kIn self M.ty) hus
    (codeAny_mono (F1.run _ X.stack _ _ ⟨Value.ref (hp.objs.size + 1) :: us, ks.zip ws⟩ (g (Value.ref (hp.objs.size + 1) :: us) ws) _ _ E0 (hr.make C us (ks.zip ws)) (I2.env0.make C us (ks.zip ws)) (hb.to _ _ ws I2.kIn e1 e2) (hb.rel ra rz) hq) fun r s' hq' => ?_))
  cases r with
  | error er => exact hq'.elim
  | ok fl =>
    cases fl with
    | ret u =>
      obtain ⟨v, H', I3, rv, ev, q3⟩ := I2.after hq'
      subst ev
      exact ⟨rv, ⟨V.ref (hp.objs.size + 1), H', I3, rfl, q3⟩⟩
    | next => exact False.elim hq'
    | brk => exact False.elim hq'
    | cont => exact False.elim hq'
theorem pe_xn (FB : ExcBaseFacts B newId initId bmB) (T : XC X.K C bmB newId) (M : XM X.K C fI) (F1 : FnOk X.prog X.w X.K X.mg X.base CX0 k fI fd ps sp) (hr : Room (k + 1) X.A) (hg : Gl X x) (hm : X.mg x = some (.ref C))
    (hb : KBn X.K fd ps (n + 1) [] g gV) (ha : PA X (e :: es) t) (hn : n ≤ 1000 := by decide) (hdb : (x == ("__debug__" : Str)) = false := by decide)
    (he : starEach (e :: es) X.env = (false, eval e X.env) :: starEach es X.env := by rfl) (hpl : (backTo pos (starEach es X.env)).any (·.1) = false := by rfl) :
    PE X (.Call (.Name x p) (e :: es) [] pos) (tXn C n 0 sp gV t tNil) := by
  refine ⟨fun pins s σ H Q I h => ?_⟩
  refine wpAny_Call_Name_kw (ld_glob I hg hm ?_ hdb)
  refine PySem.W.callWith_K (h₀ := X.base) I.ok.mod.kin T.kC (thn (ha.run pos pins s σ H _ I h) fun us s1 ⟨vs, H1, I1, r, l1, l2, q⟩ => ⟨I1.kIn, ?_⟩) he hpl
  exact run_xn (ks := []) (ws := []) FB T M F1 hr hb I1 r .nil l1 l2 hn q
theorem pe_xn0 (FB : ExcBaseFacts B newId initId bmB) (T : XC X.K C bmB newId) (M : XM X.K C fI) (F1 : FnOk X.prog X.w X.K X.mg X.base CX0 k fI fd ps sp) (hr : Room (k + 1) X.A) (hg : Gl X x) (hm : X.mg x = some (.ref C))
    (hb : KBn X.K fd ps 1 [] g gV) (hdb : (x == ("__debug__" : Str)) = false := by decide) :
    PE X (.Call (.Name x p) [] [] pos) (tXn C 0 0 sp gV tNil tNil) := by
  refine ⟨fun pins s σ H Q I h => ?_⟩
  obtain ⟨l1, l2, q⟩ := h
  refine wpAny_Call_Name_kw (ld_glob I hg hm ?_ hdb)
  exact PySem.W.callWith_K0 I.kIn T.kC (run_xn (n := 0) (ks := []) (us := []) (ws := []) FB T M F1 hr hb I .nil .nil l1 l2 (by decide) q)
theorem pe_xnK (FB : ExcBaseFacts B newId initId bmB) (T : XC X.K C bmB newId) (M : XM X.K C fI) (F1 : FnOk X.prog X.w X.K X.mg X.base CX0 k fI fd ps sp) (hr : Room (k + 1) X.A) (hg : Gl X x) (hm : X.mg x = some (.ref C))
    (hb : KBn X.K fd ps 1 ks g gV) (hkw : PK X kws tk)
    (hall : (backToKw pos (keywordEach kws X.env)).all (·.1.isSome) = true := by rfl) (hks : (backToKw pos (keywordEach kws X.env)).filterMap (·.1) = ks := by rfl) (hdb : (x == ("__debug__" : Str)) = false := by decide)
    (hpl : ((backTo pos (starEach [] X.env)).any (·.1) || (backToKw pos (keywordEach kws X.env)).any (·.1.isNone)) = false := by rfl) :
    PE X (.Call (.Name x p) [] kws pos) (tXn C 0 ks.length sp gV tNil tk) := by
  refine ⟨fun pins s σ H Q I h => ?_⟩
  refine wpAny_Call_Name_kw (ld_glob I hg hm ?_ hdb)
  refine PySem.W.callWith_KW0 (h₀ := X.base) I.ok.mod.kin T.kC hall ?_ hpl
  refine thn (hkw.run pos pins s σ H _ I h) fun ws s2 ⟨zs, H2, I2, rz, l1, l2, q2⟩ => ⟨I2.kIn, ?_⟩
  rw [hks]
  exact run_xn (n := 0) (us := []) (vs := []) FB T M F1 hr hb I2 .nil rz rfl l2 (by decide) q2
/-! isinstance of such a value; its field -/
/-- what K says once of object.__class__ -/
structure XO (K : PySem.W.Frag) : Prop where
  sp : PySem.W.specialIn K (.builtin "object.__class__") "__get__" = some (some (.builtin "getset_descriptor.__get__"))
  tk : PySem.W.takesIn K (.builtin "object.__class__") = some true
def rIsX (K : PySem.W.Frag) : List V → Hp → VK → Prop := fun xs H Q => ∃ (a C : Addr) (d : Option Addr) (c : V) (cv : Value) (b : Bool), xs = [.ref a, c] ∧ ClsV c cv ∧ H a = some (exo a C d) ∧ (∀ dd, d = some dd → ∃ fs, H dd = some (exd dd fs)) ∧
  (∃ bmB newId, XC K C bmB newId) ∧ PySem.W.kitOne K (.ref C) cv = some b ∧ Q (.bl b) H
theorem xo_inst {pins : List (Addr × Obj)} {σ : L2.St} {H : Hp} {s : Shared} {a : Addr} {d : Option Addr} (I : Inv X pins σ H s) (ha : H a = some (exo a C d)) (hd : ∀ dd, d = some dd → ∃ fs, H dd = some (exd dd fs)) :
    ∃ ox od, PySem.W.InstAt s.heap a ox C od ∧ ox.dict = d ∧ (∀ dd, d = some dd → ∃ o, od = some o ∧ s.heap.get? dd = some o) := by
  obtain ⟨t1, ho⟩ := exo_at I.hok ha
  cases d with
  | none => exact ⟨_, none, ⟨ho, rfl, rfl, trivial⟩, rfl, fun _ z => nomatch z⟩
  | some dd =>
    obtain ⟨fs, hf⟩ := hd dd rfl
    obtain ⟨mA, ⟨o, es, ep, ho2, hr⟩, _⟩ := exd_at I.hok hf
    exact ⟨_, some o, ⟨ho, rfl, rfl, ho2⟩, rfl, fun _ z => ⟨o, rfl, by cases z; exact ho2⟩⟩
theorem call_isX (O : XO X.K) : CallR X (.builtin "isinstance") (rIsX X.K) := by
  intro pins s σ H xs us Q I r h
  obtain ⟨a, C, d, c, cv, b, rfl, hc, ha, hd, ⟨bmB, newId, T⟩, e, q⟩ := h
  obtain ⟨u1, u2, rfl, r1, r2⟩ := vals2 r
  have e2 := hc.eq r2
  subst e2
  cases (show u1 = Value.ref a from r1)
  obtain ⟨ox, od, J, _, _⟩ := xo_inst I ha hd
  have hcl : (PySem.W.clsIn X.K C).isSome = true := by
    obtain ⟨cd, hcd, _⟩ := PySem.W.any_some T.hd
    rw [hcd]
    rfl
  exact PySem.W.kia_one (PySem.W.kitx_exc hcl T.ga T.gg T.exC T.ca O.sp O.tk T.ob) I.kIn J e (fun z => nomatch z) fun tk => ⟨.bl b, H, I.tok tk, rfl, q⟩
/-- e.f of such a value -/
def tXf (K : PySem.W.Frag) (f : Str) (te : TE) : TE := fun σ H Q => te σ H fun x H1 => ∃ (a C d : Addr) (fs : List (Str × V)) (v : V), x = .ref a ∧ H1 a = some (exo a C (some d)) ∧ H1 d = some (exd d fs) ∧
  (∃ bmB newId, XC K C bmB newId) ∧ PySem.W.findIn K (.ref C) f = some none ∧ fs.lookup f = some v ∧ Q v H1
theorem pe_xf {e : Expr} {te : TE} {f : Str} (he : PE X e te) (hb : attributeBase e f X.env (eval e X.env) = eval e X.env := by rfl) : PE X (.Attribute e f pos) (tXf X.K f te) := by
  refine ⟨fun pins s σ H Q I h => ?_⟩
  refine attr_of hb (thn (he.run pins s σ H _ I h) fun u s1 hh => ?_)
  obtain ⟨x, H1, I1, rx, a, C, d, fs, v, ex, ea, ed, ⟨bmB, newId, T⟩, hno, l, q⟩ := hh
  subst ex
  obtain rfl : u = Value.ref a := rx
  obtain ⟨t1, ho⟩ := exo_at I1.hok ea
  obtain ⟨mA, hns, hr⟩ := exd_at I1.hok ed
  obtain ⟨od, ho2, hl⟩ := lookIn_ns hns
  obtain ⟨u, hu, ru⟩ := RelO.some_of (v := v) (o := mA f) (by rw [← l]; exact hr f)
  have J : PySem.W.InstAt s1.heap a _ C (some od) := ⟨ho, rfl, rfl, ho2⟩
  exact HandSPX.exc_get I1.kIn J T.ga T.gg T.exC (PySem.W.findObj_own T.hd hno rfl (by rw [hl, hu])) (handed_of ru) ⟨v, H1, I1.tok _, ru, q⟩
end
end Xv

set_option maxRecDepth 100000
set_option maxHeartbeats 4000000
namespace Xv
open PySem PySem.Spec PyProof.Rows L2
/-! a def's promise where nothing is being shown (no repr is under way): only so does repr of a list tell its items -/
structure FnG (P : Program) (w : World) (K : PySem.W.Frag) (mg : Str → Option Value) (base : Heap) (CX : CXT) (k : Nat) (f : Addr) (fd : FuncData) (ps : List Str) (sp : Sp) : Prop where
  len : ∀ vs H Q E, sp vs H Q E → vs.length = ps.length
  run : ∀ (A : Around) (outer : List Env) (s : Shared) (H : Hp) (args : Args) (us : List Value) (vs : List V) (Q : VK) (E : XK),
    A.guards = some [] → Room k A → Env0 P w K mg base A outer s H → BindsTo s fd args (ps.zip us) → Vals vs us → sp vs H Q E →
    codeAny (model P w) A (.call (.ref f) args) (CR CX outer P w H s Q E) s
theorem FnG.of {P : Program} {w : World} {K : PySem.W.Frag} {mg : Str → Option Value} {base : Heap} {CX : CXT} {k : Nat} {f : Addr} {fd : FuncData} {ps : List Str} {sp : Sp} (F : FnOk P w K mg base CX k f fd ps sp) : FnG P w K mg base CX k f fd ps sp :=
  ⟨F.len, fun A outer s H args us vs Q E _ => F.run A outer s H args us vs Q E⟩
theorem FnG.mono {P : Program} {w : World} {K : PySem.W.Frag} {mg : Str → Option Value} {base : Heap} {CX : CXT} {j k : Nat} {f : Addr} {fd : FuncData} {ps : List Str} {sp : Sp} (F : FnG P w K mg base CX j f fd ps sp) (h : j ≤ k) : FnG P w K mg base CX k f fd ps sp :=
  ⟨F.len, fun A outer s H args us vs Q E g hr => F.run A outer s H args us vs Q E g (hr.mono h)⟩
theorem deeper_g {A : Around} {env : Env} (h : A.guards = some []) : (A.deeper env).guards = some [] := by
  show pushGuards [] A.guards = some []
  rw [h]
  rfl
theorem fng_of {CX : CXT} {P : Program} {w : World} {K : PySem.W.Frag} {mg : Str → Option Value} {base : Heap} {k : Nat} {f : Addr} {name qual : Str} {params : Arguments} {body : List Stmt} {scope : Scope} {dV kV doc pm cdv ct oc : Value} {an od : Option Addr}
    {osl : Array (Option Value)} {N ps : List Str} {sp : Sp} (lk : K.lookup f = some ⟨oc, od, .func (PySem.W.fnOf name qual params body scope dV kV doc pm an cdv ct), osl⟩) (hcd : PySem.W.codeIn K cdv qual = true) (S : FnScope N ps scope)
    (len : ∀ vs H Q E, sp vs H Q E → vs.length = ps.length)
    (hbody : ∀ (A : Around) (outer : List Env) (s : Shared) (H : Hp) (vs : List V) (Q : VK) (E : XK), (A.deeper (envOfC qual scope s.heap.objs.size f cdv)).guards = some [] → Room k (A.deeper (envOfC qual scope s.heap.objs.size f cdv)) → sp vs H Q E →
      ∃ t, PSs (cxOf CX P w K mg base N qual scope f cdv A outer s H E) body t ∧ t { nx := fun _ H' => Q .non H', rt := Q } (start N vs) H) :
    FnG P w K mg base CX (k + 1) f (PySem.W.fnOf name qual params body scope dV kV doc pm an cdv ct) ps sp := by
  refine ⟨len, fun A outer s H args us vs Q E hgd hr e0 hb r hsp => ?_⟩
  have hl := len _ _ _ _ hsp
  have KX : K.In s.heap := e0.mod.kin.keeps fun b o e => (e0.bs b o e).1
  have hkind : ∀ y ∈ ps.zip us, scope.names.lookup y.1 = some .local ∨ (scope.names.lookup y.1 = some .cell ∧ ((cellsFrom (s.heap.objs.size + 1) scope.names []).lookup y.1).isSome = true) := by
    rintro ⟨n, v⟩ hy
    rcases S.par n (List.of_mem_zip hy).1 with q | q
    · exact .inl q
    · exact .inr ⟨q, PySem.W.cellsFrom_some _ _ _ (.inl q)⟩
  refine codeAny_call_function hr.depth (KX _ _ lk) rfl S.co S.gen rfl (PySem.W.codeRec_of KX hcd) (hb _ _ _ _ ?_)
  refine wpAny_newFunctionEnv_cells S.kind hkind fun env he s1 x => ?_
  subst he
  refine ⟨(e0.mod.nolimit.keeps fun b o e => (e0.bs b o e).1).keeps x.toInCall.keep, codeAny_func ?_⟩
  obtain ⟨t, ht, hq⟩ := hbody A outer s H vs Q E (deeper_g hgd) (hr.deeper _) hsp
  have I : Inv (cxOf CX P w K mg base N qual scope f cdv A outer s H E) [] (start N vs) H s1 := inv_start S hr.hd e0 hl r x
  refine wpAny_mono (ht.run [] s1 (start N vs) H _ I hq) (fun fl s' hs => ?_) fun e s' hs => hs
  cases fl with
  | ret u =>
    obtain ⟨v, σ', H', J, rv, q⟩ := hs
    exact ⟨v, H', J.os, J.bare, J.base, J.hok, rv, q⟩
  | next =>
    obtain ⟨σ', H', J, q⟩ := hs
    exact ⟨V.non, H', J.os, J.bare, J.base, J.hok, rfl, q⟩
  | brk =>
    obtain ⟨_, _, _, q⟩ := hs
    exact False.elim q
  | cont =>
    obtain ⟨_, _, _, q⟩ := hs
    exact False.elim q
section
variable {P : Program} {w : World} {K : PySem.W.Frag} {mg : Str → Option Value} {base : Heap}
/-- a def of the text that lets nothing out -/
theorem okG {x qual : Str} {st : Stmt} {f : Addr} {fd : FuncData} {N ps : List Str} {k : Nat} {sp : Sp} (F : Fun K x qual st f fd) (S : FnScope N ps (defScope st)) (len : ∀ vs H Q E, sp vs H Q E → vs.length = ps.length)
    (hbody : ∀ (cdv : Value) (A : Around) (outer : List Env) (s : Shared) (H : Hp) (vs : List V) (Q : VK) (E : XK), (A.deeper (envOfC qual (defScope st) s.heap.objs.size f cdv)).guards = some [] →
      Room k (A.deeper (envOfC qual (defScope st) s.heap.objs.size f cdv)) → sp vs H Q E →
      ∃ t, PSs (cxOf CX0 P w K mg base N qual (defScope st) f cdv A outer s H E).nox (defBody st) t ∧ t { nx := fun _ H' => Q .non H', rt := Q } (start N vs) H) : FnG P w K mg base CX0 (k + 1) f fd ps sp := by
  obtain ⟨oc, od, kV, doc, pm, an, cdv, ct, osl, rfl, lk, hcd⟩ := F.ex
  refine fng_of lk hcd S len fun A outer s H vs Q E hg hr hsp => ?_
  obtain ⟨t, h, q⟩ := hbody cdv A outer s H vs Q E hg hr hsp
  exact ⟨t, h.nox, q⟩
end
section
variable {X : Cx} {k : Nat} {f : Addr} {fd : FuncData} {ps : List Str} {sp : Sp} {dvs : List V} {ds : List Value} {x : Str} {p pos : Pos} {e : Expr} {es : List Expr} {t : TA} {r : List V → Hp → VK → Prop}
/-- such a def, called where nothing is being shown -/
theorem FnG.callR (F : FnG X.prog X.w X.K X.mg X.base CX0 k f fd ps sp) (hg : X.A.guards = some []) (hr : Room k X.A) (hb : Binds X.K fd ps ds) (hd : Vals dvs ds) : CallR X (.ref f) (fun vs H Q => sp (vs ++ dvs) H Q E0) := by
  intro pins s σ H vs us Q I r h
  have r2 : Vals (vs ++ dvs) (us ++ ds) := r.append hd
  have hl : (us ++ ds).length = ps.length := by
    rw [← r2.length]
    exact F.len _ _ _ _ h
  refine wpAny_call (codeAny_mono (F.run X.A X.stack s H ⟨us, []⟩ (us ++ ds) (vs ++ dvs) Q E0 hg hr I.env0 (hb s us I.kIn hl) r2 h) fun r s' hq => ?_)
  cases r with
  | error e => exact hq.elim
  | ok fl =>
    cases fl with
    | ret u => exact I.after hq
    | next => exact False.elim hq
    | brk => exact False.elim hq
    | cont => exact False.elim hq
/-- f(e, ..), f an object of the module, by what its call is worth -/
theorem pe_cf {f : Addr} (hc : CallR X (.ref f) r) (hg : Gl X x) (hm : X.mg x = some (.ref f)) (hk : PySem.W.keepIn X.K (.ref f) = true) (ha : PA X (e :: es) t) (hdb : (x == ("__debug__" : Str)) = false := by decide)
    (he : starEach (e :: es) X.env = (false, eval e X.env) :: starEach es X.env := by rfl) (hpl : (backTo pos (starEach es X.env)).any (·.1) = false := by rfl) : PE X (.Call (.Name x p) (e :: es) [] pos) (tCB r t) := by
  refine ⟨fun pins s σ H Q I h => ?_⟩
  refine wpAny_Call_Name_kw (ld_glob I hg hm ?_ hdb)
  refine PySem.W.callWith_K (h₀ := X.base) I.ok.mod.kin hk (thn (ha.run pos pins s σ H _ I h) fun us s1 ⟨vs, H1, I1, r, q⟩ => ⟨I1.kIn, ?_⟩) he hpl
  exact hc pins s1 σ H1 vs us Q I1 r q
end
/-! the law's call -/
theorem lawG {P : Program} {w : World} {K : PySem.W.Frag} {mg mb : Str → Option Value} {k : Nat} {fa a : Addr} {fd : FuncData} {x : Str} {sp : Sp} {s1 : Shared} {vs : List Value} {ns : List Int}
    (KX : K.In s1.heap) (hns : s1.heap.Ns mainGlobals mg) (hb : s1.heap.Ns builtinsNs mb) (hbb : ∀ x : Str, x ≠ "__name__" → mb x = bootBuiltins x) (hlim : s1.heap.NoLimit) (hg : s1.gens = #[])
    (ha : s1.heap.get? a = some { cls := .type "list", data := .seq vs.toArray }) (hi : IntsAre vs ns) (hl : ns.length ≤ sizeLine) (hr : Room k callerA)
    (F : ∀ base : Heap, K.In base → base.Ns mainGlobals mg → FnG P w K mg base CX0 k fa fd [x] sp) (hbind : ∀ (s : Shared) (u : Value), BindsTo s fd ⟨[u], []⟩ [(x, u)])
    (hsp : ∀ H : Hp, Only H → SqL K H a (ns.map V.int) → sp [.ref a] H (fun v _ => v = .bl true) fun _ _ _ => False) :
    codeAny (model P w) callerA (.call (.ref fa) ⟨[.ref a], []⟩) (fun r s' => r = .ok (.ret (.bool true)) ∧ OldK s1.heap s'.heap ∧ s'.os = s1.os ∧ AllBare s'.gens) s1 := by
  have rv := vals_ints hi
  have lenV := hi.length
  have core : ∀ H : Hp, Only H → SqL K H a (ns.map V.int) → HOk P w H s1.heap → (∀ b, H b ≠ none → b = a) → (H a ≠ none → K.lookup a = none) →
      codeAny (model P w) callerA (.call (.ref fa) ⟨[.ref a], []⟩) (fun r s' => r = .ok (.ret (.bool true)) ∧ OldK s1.heap s'.heap ∧ s'.os = s1.os ∧ AllBare s'.gens) s1 := by
    intro H hO hS hok hA hK
    have base_of : ∀ {b : Addr} {o : Obj}, s1.heap.get? b = some o → H b = none → (hidT s1.heap H).get? b = some o := fun e n => hidT_get e n
    have isA : ∀ {b : Addr} {u : HO}, H b = some u → b = a := fun {b u} q => hA b (by rw [q]; simp)
    have noA : ∀ {b : Addr} {o : Obj} {es : Array DictEntry} {ep : Nat}, s1.heap.get? b = some o → o.data = .dict es ep → H b = none := by
      intro b o es ep e d
      cases q : H b with
      | none => rfl
      | some u =>
        have e' := isA q
        subst e'
        rw [ha] at e
        cases e
        have d' : Data.seq vs.toArray _ = Data.dict es ep := d
        cases d'
    have nsK : ∀ {b : Addr} {m : Str → Option Value}, s1.heap.Ns b m → (hidT s1.heap H).Ns b m := fun {b m} ⟨o, es, ep, e, d, r⟩ => ⟨o, es, ep, base_of e (noA e d), d, r⟩
    have hKb : K.In (hidT s1.heap H) := by
      intro b o e
      refine base_of (KX b o e) ?_
      cases q : H b with
      | none => rfl
      | some u =>
        have e' := isA q
        subst e'
        rw [hK (by rw [q]; simp)] at e
        cases e
    obtain ⟨mc, c1, c2⟩ := hlim
    have hM : Mod K mg (hidT s1.heap H) := ⟨hKb, nsK hns, ⟨mb, nsK hb, hbb⟩, ⟨mc, nsK c1, c2⟩⟩
    have e0 : Env0 P w K mg (hidT s1.heap H) callerA [] s1 H := ⟨rfl, hM, fun b o e => of_hidT e, Nat.le_of_eq (hidT_size _ _), trivial, fun b hb => absurd (show b ∈ ([] : List Addr) from hb) (by simp), hok, .of_eq hg⟩
    refine codeAny_mono ((F _ hKb (nsK hns)).run callerA [] s1 H ⟨[.ref a], []⟩ [.ref a] [.ref a] _ _ rfl hr e0 (hbind s1 (.ref a)) (.cons rfl .nil) (hsp H hO hS)) fun r s' h => ?_
    cases r with
    | error e => exact h.elim
    | ok fl =>
      cases fl with
      | next => exact False.elim h
      | brk => exact False.elim h
      | cont => exact False.elim h
      | ret u =>
        obtain ⟨v, H', os, bare, un, hok', r', q⟩ := h
        obtain rfl : v = .bl true := q
        obtain rfl : u = Value.bool true := r'
        refine ⟨rfl, OldK.of_keep fun b o e => ?_, os, bare⟩
        cases q : H b with
        | none => exact un.keep b o e q (by intro z; exact absurd (show b ∈ ([] : List Addr) from z) (by simp)) (by simp)
        | some u =>
          rcases hO b with z | ⟨ob, xs, z⟩
          · rw [q] at z
            cases z
          · obtain ⟨e1, _⟩ := hok b _ z
            obtain ⟨e2, _⟩ := hok' b _ (un.frzs b ob _ z)
            rw [e] at e1
            cases e1
            exact e2
  cases hk : K.lookup a with
  | some o =>
    have e := KX a o hk
    rw [ha] at e
    cases e
    refine core (fun _ => none) (fun _ => .inl rfl) (.inr ⟨_, vs.toArray, _, hk, rfl, rfl, rfl, ?_, by simpa using rv⟩) (fun b u z => ?_) (fun b z => absurd rfl z) fun z => absurd rfl z
    · rw [List.size_toArray, lenV]
      exact hl
    · have z' : (none : Option HO) = some u := z
      cases z'
  | none =>
    refine core (fun b => if b = a then some (.frz { cls := .type "list", data := .seq vs.toArray } (.lst (ns.map V.int))) else none) (fun b => ?_)
      (.inl (.inr ⟨{ cls := .type "list", data := .seq vs.toArray }, if_pos rfl⟩)) (fun b u z => ?_) (fun b z => ?_) fun _ => hk
    · by_cases hb : b = a
      · exact .inr ⟨_, _, if_pos hb⟩
      · exact .inl (if_neg hb)
    · by_cases hb : b = a
      · have z' := (if_pos hb).symm.trans z
        cases z'
        subst hb
        exact ⟨ha, by rw [List.length_map]; exact hl, vs, _, rv, ha⟩
      · have z' := (if_neg hb).symm.trans z
        cases z'
    · by_cases hb : b = a
      · exact hb
      · exact absurd (if_neg hb) z
theorem walkG {l : PySem.W.OpenLaw} {n k : Nat} {q : Program} {loose : List Str} {XP : (Str → Option Value) → Heap → Prop} {YP : World → Heap → Prop} {d : DefRec} {K : Params → PySem.W.Frag} {sp : World → Sp} {x : Str}
    (hn : l.most = some n) (hn2 : n ≤ sizeLine) (hdf : d.params.defaults = []) (hr : Room k callerA)
    (hY : ∀ (w : World) (h : Heap), YP w h → (K w.params).In h)
    (F : ∀ (w : World) (mg : Str → Option Value) (fa : Addr) (h : Heap), (K w.params).In h → h.Ns mainGlobals mg → mg d.name = some (.ref fa) →
      ∃ fd : FuncData, (∀ (s : Shared) (u : Value), BindsTo s fd ⟨[u], []⟩ [(x, u)]) ∧
        ∀ base : Heap, (K w.params).In base → base.Ns mainGlobals mg → FnG l.prog w (K w.params) mg base CX0 k fa fd [x] (sp w))
    (hsp : ∀ (w : World) (H : Hp) (a : Addr) (ns : List Int), ns.length ≤ n → (∀ z ∈ ns, Builtin.Int.intBits z ≤ 1048576) → Only H → SqL (K w.params) H a (ns.map V.int) → sp w [.ref a] H (fun v _ => v = .bl true) fun _ _ _ => False) :
    PySem.W.WalkO q loose XP YP l.row.toRowW d [] (fun f vs => PySem.call f vs) := by
  refine Att.attach_callB hn hdf fun w s0 s1 mg mb fa o pm cd doc a vs ns G Y ho hd hcd hmg hobj hints hlen hbits hg => ?_
  have KX := hY w _ Y
  obtain ⟨fd, hb, hF⟩ := F w mg fa _ KX G.T.g hmg
  exact lawG KX G.T.g G.T.b G.T.builtins G.T.nolimit hg hobj hints (Nat.le_trans hlen hn2) hr hF hb fun H hO hS => hsp w H a ns hlen hbits hO hS
end Xv

set_option maxRecDepth 100000
set_option maxHeartbeats 4000000
namespace Xv
open PySem PySem.Spec PyProof.Rows L2
/-! plain data among the values: what v is worth in the heap H -/
mutual
def DV (H : Hp) : PyData → V → Prop
  | .none, v => v = .non
  | .bool b, v => v = .bl b
  | .int i, v => v = .int i
  | .str x, v => v = .str x
  | .list ds, v => ∃ a xs, v = .ref a ∧ H a = some (.lst xs) ∧ DVs H ds xs
  | .tuple ds, v => ∃ a xs, v = .ref a ∧ H a = some (.tup xs) ∧ DVs H ds xs
  | .dict kvs, v => kvs = [] ∧ ∃ a, v = .ref a ∧ H a = some (.dK [])
def DVs (H : Hp) : List PyData → List V → Prop
  | [], xs => xs = []
  | d :: ds, xs => ∃ x r, xs = x :: r ∧ DV H d x ∧ DVs H ds r
end
mutual
theorem DV.same {H H' : Hp} (s : Same H H') : ∀ (d : PyData) (v : V), DV H d v → DV H' d v
  | .none, _, h => h
  | .bool _, _, h => h
  | .int _, _, h => h
  | .str _, _, h => h
  | .list ds, v, h => by
    obtain ⟨a, xs, e, ha, hx⟩ := (show ∃ a xs, v = .ref a ∧ H a = some (.lst xs) ∧ DVs H ds xs from by simpa only [DV] using h)
    simp only [DV]
    exact ⟨a, xs, e, s _ _ ha, DVs.same s ds xs hx⟩
  | .tuple ds, v, h => by
    obtain ⟨a, xs, e, ha, hx⟩ := (show ∃ a xs, v = .ref a ∧ H a = some (.tup xs) ∧ DVs H ds xs from by simpa only [DV] using h)
    simp only [DV]
    exact ⟨a, xs, e, s _ _ ha, DVs.same s ds xs hx⟩
  | .dict kvs, v, h => by
    obtain ⟨e, a, e2, ha⟩ := (show kvs = [] ∧ ∃ a, v = .ref a ∧ H a = some (.dK []) from by simpa only [DV] using h)
    simp only [DV]
    exact ⟨e, a, e2, s _ _ ha⟩
theorem DVs.same {H H' : Hp} (s : Same H H') : ∀ (ds : List PyData) (xs : List V), DVs H ds xs → DVs H' ds xs
  | [], _, h => h
  | d :: ds, xs, h => by
    obtain ⟨x, r, e, h1, h2⟩ := (show ∃ x r, xs = x :: r ∧ DV H d x ∧ DVs H ds r from by simpa only [DVs] using h)
    simp only [DVs]
    exact ⟨x, r, e, DV.same s d x h1, DVs.same s ds r h2⟩
end
mutual
theorem reads_dv {P : Program} {w : World} {H : Hp} {h : Heap} (ok : HOk P w H h) : ∀ (d : PyData) (v : V) (u : Value), DV H d v → RelV v u → ∃ as, Reads h u d as
  | .none, v, u, hd, r => by
    have e : v = .non := by simpa only [DV] using hd
    subst e
    cases (show u = Value.none from r)
    exact ⟨_, .none⟩
  | .bool b, v, u, hd, r => by
    have e : v = .bl b := by simpa only [DV] using hd
    subst e
    cases (show u = Value.bool b from r)
    exact ⟨_, .bool b⟩
  | .int i, v, u, hd, r => by
    have e : v = .int i := by simpa only [DV] using hd
    subst e
    obtain ⟨t, rfl⟩ := (show ∃ t, u = Value.int i t from r)
    exact ⟨_, .int i t⟩
  | .str x, v, u, hd, r => by
    have e : v = .str x := by simpa only [DV] using hd
    subst e
    obtain ⟨t, rfl⟩ := (show ∃ t, u = Value.str x t from r)
    exact ⟨_, .str x t⟩
  | .list ds, v, u, hd, r => by
    obtain ⟨a, xs, e, ha, hx⟩ := (show ∃ a xs, v = .ref a ∧ H a = some (.lst xs) ∧ DVs H ds xs from by simpa only [DV] using hd)
    subst e
    cases (show u = Value.ref a from r)
    obtain ⟨_, its, n, rv, ho⟩ := (show ObjOk P w H h a (.lst xs) from ok a _ ha)
    obtain ⟨as, ra⟩ := reads_dvs ok ds xs its hx rv
    exact ⟨a :: as, .list ho rfl rfl (by simpa using ra)⟩
  | .tuple ds, v, u, hd, r => by
    obtain ⟨a, xs, e, ha, hx⟩ := (show ∃ a xs, v = .ref a ∧ H a = some (.tup xs) ∧ DVs H ds xs from by simpa only [DV] using hd)
    subst e
    cases (show u = Value.ref a from r)
    obtain ⟨_, its, rv, o, ho, hc, n, hdt⟩ := (show ObjOk P w H h a (.tup xs) from ok a _ ha)
    obtain ⟨as, ra⟩ := reads_dvs ok ds xs its hx rv
    exact ⟨as, .tuple ho hc hdt (by simpa using ra)⟩
  | .dict kvs, v, u, hd, r => by
    obtain ⟨e, a, e2, ha⟩ := (show kvs = [] ∧ ∃ a, v = .ref a ∧ H a = some (.dK []) from by simpa only [DV] using hd)
    subst e
    subst e2
    cases (show u = Value.ref a from r)
    obtain ⟨_, hsy, vs, kv, hD⟩ := (show ObjOk P w H h a (.dK []) from ok a _ ha)
    cases kv
    obtain ⟨o, es, ep, ho, hx, hdt, _, hp, _⟩ := hD
    have he : es.toList = [] := by
      cases q : es.toList with
      | nil => rfl
      | cons y r =>
        rw [q] at hp
        cases hp
    refine ⟨a :: [] ++ [], .dict (kvs := []) ho hx.1 hdt ?_ ?_⟩
    · rw [he]
      exact .nil
    · rw [he]
      exact .nil
theorem reads_dvs {P : Program} {w : World} {H : Hp} {h : Heap} (ok : HOk P w H h) : ∀ (ds : List PyData) (xs : List V) (us : List Value), DVs H ds xs → Vals xs us → ∃ as, ReadsAll h us ds as
  | [], xs, us, hd, r => by
    have e : xs = [] := by simpa only [DVs] using hd
    subst e
    cases r
    exact ⟨_, .nil⟩
  | d :: ds, xs, us, hd, r => by
    obtain ⟨x, rr, e, h1, h2⟩ := (show ∃ x r, xs = x :: r ∧ DV H d x ∧ DVs H ds r from by simpa only [DVs] using hd)
    subst e
    cases r with
    | cons r1 r2 =>
      obtain ⟨as, a1⟩ := reads_dv ok d x _ h1 r1
      obtain ⟨bs, a2⟩ := reads_dvs ok ds rr _ h2 r2
      exact ⟨as ++ bs, .cons a1 a2⟩
end
/-- an empty dict of the ledger is no table of modules -/
theorem dict_dv {P : Program} {w : World} {H : Hp} {h : Heap} {kvs : List (PyData × PyData)} {v : V} {u : Value} (ok : HOk P w H h) (hd : DV H (.dict kvs) v) (r : RelV v u) :
    kvs = [] ∧ ∃ a o n, u = .ref a ∧ (a == sysModules) = false ∧ h.get? a = some o ∧ o.cls = .type "dict" ∧ o.data = .dict #[] n := by
  obtain ⟨e, a, e2, ha⟩ := (show kvs = [] ∧ ∃ a, v = .ref a ∧ H a = some (.dK []) from by simpa only [DV] using hd)
  subst e2
  cases (show u = Value.ref a from r)
  obtain ⟨_, hsy, vs, kv, hD⟩ := (show ObjOk P w H h a (.dK []) from ok a _ ha)
  cases kv
  obtain ⟨o, es, ep, ho, hx, hdt, _, hp, _⟩ := hD
  have he : es = #[] := by
    obtain ⟨l⟩ := es
    cases l with
    | nil => rfl
    | cons y r => cases hp
  subst he
  exact ⟨e, a, o, ep, rfl, hsy, ho, hx.1, hdt⟩
mutual
/-- how plain data of the ledger is shown -/
theorem rk_dv {P : Program} {w : World} {H : Hp} {h : Heap} (ok : HOk P w H h) : ∀ (d : PyData) (v : V) (u : Value), DV H d v → RelV v u → d.showable = true → d.shown.length ≤ sizeLine → ∃ bs, ReadAtMost h d.depth bs ∧ ReprK P w bs h d.depth u d.shown
  | .none, v, u, hd, r, hs, hz => by
    have e : v = .non := by simpa only [DV] using hd
    subst e
    cases (show u = Value.none from r)
    exact ReprK.of_reads .none hs (by simp [PyData.hasDict]) hz
  | .bool b, v, u, hd, r, hs, hz => by
    have e : v = .bl b := by simpa only [DV] using hd
    subst e
    cases (show u = Value.bool b from r)
    exact ReprK.of_reads (.bool b) hs (by simp [PyData.hasDict]) hz
  | .int i, v, u, hd, r, hs, hz => by
    have e : v = .int i := by simpa only [DV] using hd
    subst e
    obtain ⟨t, rfl⟩ := (show ∃ t, u = Value.int i t from r)
    exact ReprK.of_reads (.int i t) hs (by simp [PyData.hasDict]) hz
  | .str x, v, u, hd, r, hs, hz => by
    have e : v = .str x := by simpa only [DV] using hd
    subst e
    obtain ⟨t, rfl⟩ := (show ∃ t, u = Value.str x t from r)
    exact ReprK.of_reads (.str x t) hs (by simp [PyData.hasDict]) hz
  | .list ds, v, u, hd, r, hs, hz => by
    have hz' : (listText (PyData.shownAll ds)).length ≤ sizeLine := by simpa only [PyData.shown] using hz
    obtain ⟨as, rd⟩ := reads_dv ok _ _ _ hd r
    obtain ⟨a, xs, e, ha, hx⟩ := (show ∃ a xs, v = .ref a ∧ H a = some (.lst xs) ∧ DVs H ds xs from by simpa only [DV] using hd)
    subst e
    cases (show u = Value.ref a from r)
    obtain ⟨_, its, n, rv, ho⟩ := (show ObjOk P w H h a (.lst xs) from ok a _ ha)
    obtain ⟨bs, hb, hk⟩ := rks_dv ok ds xs its hx rv (by simpa [PyData.showable] using hs) (fun t ht => Nat.le_trans (listText_mem_le ht) hz')
    have hna : a ∉ bs := not_mem_of_deeper rd (by simp only [PyData.depth]; omega) hb
    refine ⟨a :: bs, ReadAtMost.cons rd (by simp only [PyData.depth]; omega) hb, ?_⟩
    simp only [PyData.depth, PyData.shown]
    cases rv with
    | nil =>
      have e : ds = [] := by
        cases ds with
        | nil => rfl
        | cons y q => simp only [DVs] at hx; obtain ⟨_, _, z, _⟩ := hx; cases z
      subst e
      simp only [PyData.shownAll, listText_nil]
      exact ReprK.listEmpty ho rfl rfl
    | cons r1 r2 => exact ReprK.list ho rfl rfl hna (by simpa using hk.length_eq) (fun i y e => hk.item i y (by simpa using e))
  | .tuple ds, v, u, hd, r, hs, hz => by
    have hz' : (tupleText (PyData.shownAll ds)).length ≤ sizeLine := by simpa only [PyData.shown] using hz
    obtain ⟨as, rd⟩ := reads_dv ok _ _ _ hd r
    obtain ⟨a, xs, e, ha, hx⟩ := (show ∃ a xs, v = .ref a ∧ H a = some (.tup xs) ∧ DVs H ds xs from by simpa only [DV] using hd)
    subst e
    cases (show u = Value.ref a from r)
    obtain ⟨_, its, rv, o, ho, hc, n, hdt⟩ := (show ObjOk P w H h a (.tup xs) from ok a _ ha)
    obtain ⟨bs, hb, hk⟩ := rks_dv ok ds xs its hx rv (by simpa [PyData.showable] using hs) (fun t ht => Nat.le_trans (tupleText_mem_le ht) hz')
    have hna : a ∉ bs := not_mem_of_deeper rd (by simp only [PyData.depth]; omega) hb
    refine ⟨a :: bs, ReadAtMost.cons rd (by simp only [PyData.depth]; omega) hb, ?_⟩
    simp only [PyData.depth, PyData.shown]
    exact ReprK.tuple ho hc hdt hna (by simpa using hk)
  | .dict kvs, v, u, hd, r, hs, hz => by
    obtain ⟨as, rd⟩ := reads_dv ok _ _ _ hd r
    obtain ⟨e, a, o, n, e2, hsy, ho, hc, hdt⟩ := dict_dv ok hd r
    subst e
    subst e2
    have hna : a ∉ ([] : List Addr) := by simp
    refine ⟨[a], ReadAtMost.cons rd (n := 0) (by simp only [PyData.depth]; omega) (fun _ h => nomatch h), ?_⟩
    simp only [PyData.depth, PyData.shown, PyData.shownKv_eq]
    exact ReprK.dict ho hc hdt hsy hna (ReprEntriesK.of_two [] [] [] .nil .nil)
theorem rks_dv {P : Program} {w : World} {H : Hp} {h : Heap} (ok : HOk P w H h) : ∀ (ds : List PyData) (xs : List V) (us : List Value), DVs H ds xs → Vals xs us → PyData.showableAll ds = true → (∀ t ∈ PyData.shownAll ds, t.length ≤ sizeLine) →
    ∃ bs, ReadAtMost h (PyData.depthAll ds) bs ∧ ReprAllK P w bs h (PyData.depthAll ds) us (PyData.shownAll ds)
  | [], xs, us, hd, r, hs, hz => by
    have e : xs = [] := by simpa only [DVs] using hd
    subst e
    cases r
    exact ⟨[], (fun _ h => nomatch h), by simp only [PyData.shownAll]; exact .nil⟩
  | d :: ds, xs, us, hd, r, hs, hz => by
    obtain ⟨x, rr, e, h1, h2⟩ := (show ∃ x r, xs = x :: r ∧ DV H d x ∧ DVs H ds r from by simpa only [DVs] using hd)
    subst e
    have hs' : d.showable = true ∧ PyData.showableAll ds = true := by simpa [PyData.showableAll] using hs
    cases r with
    | cons r1 r2 =>
      obtain ⟨b1, hb1, k1⟩ := rk_dv ok d x _ h1 r1 hs'.1 (hz _ (by simp only [PyData.shownAll]; exact List.mem_cons_self ..))
      obtain ⟨b2, hb2, k2⟩ := rks_dv ok ds rr _ h2 r2 hs'.2 (fun t ht => hz t (by simp only [PyData.shownAll]; exact List.mem_cons_of_mem _ ht))
      refine ⟨b1 ++ b2, ?_, ?_⟩
      · simp only [PyData.depthAll]
        exact (hb1.mono (Nat.le_max_left _ _)).append (hb2.mono (Nat.le_max_right _ _))
      · simp only [PyData.depthAll, PyData.shownAll]
        exact .cons ((k1.more fun b hb => List.mem_append_left _ hb).level_le (Nat.le_max_left _ _)) (k2.more_le (fun b hb => List.mem_append_right _ hb) (Nat.le_max_right _ _))
end
/-- repr of plain data, where nothing is being shown -/
def rRepr (K : PySem.W.Frag) : List V → Hp → VK → Prop := fun xs H Q => ∃ (v : V) (d : PyData), xs = [v] ∧ DV H d v ∧ d.showable = true ∧ d.depth ≤ 40 ∧ d.shown.length ≤ sizeLine ∧ (∀ i, d = .int i → i.natAbs.log2 < 1920) ∧ Q (.str d.shown) H
theorem call_repr {X : Cx} {k : Nat} (hr : Room k X.A) (hg : X.A.guards = some []) (hs : True) : CallR X (.builtin "repr") (rRepr X.K) := by
  intro pins s σ H xs us Q I r h
  obtain ⟨v, d, rfl, hd, sh, dp, sz, hi, q⟩ := h
  cases r with
  | cons r1 r2 =>
    rename_i u us'
    cases r2
    have hu := hr.units
    have fin : ∀ (ss : Shared) (u' : Tok), Inv X pins σ H ss → EP X pins σ Q (.str d.shown u') ss := fun ss u' J => ⟨.str d.shown, H, J, ⟨u', rfl⟩, q⟩
    cases d with
    | none =>
      have e : v = .non := by simpa only [DV] using hd
      subst e
      cases (show u = Value.none from r1)
      exact PySem.P.repr_of_none (fin _ _ (I.tok _))
    | bool b =>
      have e : v = .bl b := by simpa only [DV] using hd
      subst e
      cases (show u = Value.bool b from r1)
      refine PySem.P.repr_of_bool ?_
      have z := fin { s with toks := s.toks + 1 } s.toks (I.tok _)
      cases b <;> exact z
    | int i =>
      have e : v = .int i := by simpa only [DV] using hd
      subst e
      obtain ⟨t, rfl⟩ := (show ∃ t, u = Value.int i t from r1)
      exact PySem.P.repr_of_int (hi i rfl) (fin _ _ (I.tok _))
    | str x =>
      have e : v = .str x := by simpa only [DV] using hd
      subst e
      obtain ⟨t, rfl⟩ := (show ∃ t, u = Value.str x t from r1)
      exact PySem.P.repr_of_str (fin _ _ (I.tok _)) sz
    | list ds =>
      have hz' : (listText (PyData.shownAll ds)).length ≤ sizeLine := by simpa only [PyData.shown] using sz
      obtain ⟨as, rd⟩ := reads_dv I.hok _ _ _ hd r1
      obtain ⟨a, xs, e, ha, hx⟩ := (show ∃ a xs, v = .ref a ∧ H a = some (.lst xs) ∧ DVs H ds xs from by simpa only [DV] using hd)
      subst e
      cases (show u = Value.ref a from r1)
      obtain ⟨_, its, n, rv, ho⟩ := (show ObjOk X.prog X.w H s.heap a (.lst xs) from I.hok a _ ha)
      obtain ⟨bs, hb, hk⟩ := rks_dv I.hok ds xs its hx rv (by simpa [PyData.showable] using sh) (fun t ht => Nat.le_trans (listText_mem_le ht) hz')
      have hna : a ∉ bs := not_mem_of_deeper rd (by simp only [PyData.depth]; omega) hb
      simp only [PyData.depth] at dp
      simp only [PyData.shown] at fin
      refine call_repr_slot (T := "list") (by omega) ⟨_, ho, rfl⟩ F.slot_list_repr.toG ?_
      cases rv with
      | nil =>
        have e : ds = [] := by
          cases ds with
          | nil => rfl
          | cons y q => simp only [DVs] at hx; obtain ⟨_, _, z, _⟩ := hx; cases z
        subst e
        simp only [PyData.shownAll, listText_nil] at fin
        exact call_list_repr_empty ⟨_, ho, rfl⟩ ho rfl ⟨_, _, rfl, fin _ _ (I.tok _)⟩
      | cons r1 r2 => exact call_list_reprK ho rfl rfl hna (by simpa using hk.length_eq) (fun i y e => hk.item i y (by simpa using e)) hg (fun b _ => Clear.nil b) (by show X.A.units + 1 + _ < cLine; omega) (fun _ _ z => z) (fun h' u' tk hk => ⟨_, _, rfl, fin _ _ (I.kept hk)⟩) hz'
    | tuple ds =>
      have hz' : (tupleText (PyData.shownAll ds)).length ≤ sizeLine := by simpa only [PyData.shown] using sz
      obtain ⟨as, rd⟩ := reads_dv I.hok _ _ _ hd r1
      obtain ⟨a, xs, e, ha, hx⟩ := (show ∃ a xs, v = .ref a ∧ H a = some (.tup xs) ∧ DVs H ds xs from by simpa only [DV] using hd)
      subst e
      cases (show u = Value.ref a from r1)
      obtain ⟨_, its, rv, o, ho, hc, n, hdt⟩ := (show ObjOk X.prog X.w H s.heap a (.tup xs) from I.hok a _ ha)
      obtain ⟨bs, hb, hk⟩ := rks_dv I.hok ds xs its hx rv (by simpa [PyData.showable] using sh) (fun t ht => Nat.le_trans (tupleText_mem_le ht) hz')
      have hna : a ∉ bs := not_mem_of_deeper rd (by simp only [PyData.depth]; omega) hb
      simp only [PyData.depth] at dp
      simp only [PyData.shown] at fin
      exact call_repr_slot (T := "tuple") (by omega) ⟨_, ho, hc⟩ F.slot_tuple_repr (call_tuple_reprK ho hc hdt hna (by simpa using hk) hg (fun b _ => Clear.nil b) (by show X.A.units + 1 + _ < cLine; omega) (fun _ _ z => z) (fun h' u' tk hk => ⟨_, _, rfl, fin _ _ (I.kept hk)⟩) hz')
    | dict kvs =>
      obtain ⟨e, a, o, n, e2, hsy, ho, hc, hdt⟩ := dict_dv I.hok hd r1
      subst e
      subst e2
      exact repr_of_reads' (as := a :: [] ++ []) (.dict ho hc hdt .nil .nil) sh (fun _ z => by
        have z' : sysModules = a := by simpa using z
        rw [z'] at hsy
        simp at hsy) hg (by omega) (fun _ _ z => z) (fun h' u' tk hk => fin _ _ (I.kept hk)) sz
/-! == and != of plain data -/
def rEqD : R2 := fun x y H Q => ∃ d e, DV H d x ∧ DV H e y ∧ PyData.canLay0 d = true ∧ PyData.canLay0 e = true ∧ d.depth ≤ 40 ∧ e.depth ≤ 40 ∧ Q (.bl (PyData.eqv d e)) H
def rNeD : R2 := fun x y H Q => ∃ d e, DV H d x ∧ DV H e y ∧ PyData.canLay0 d = true ∧ PyData.canLay0 e = true ∧ d.depth ≤ 40 ∧ e.depth ≤ 40 ∧ Q (.bl (!PyData.eqv d e)) H
theorem shaped_of {d : PyData} (h : PyData.canLay0 d = true) (hd : d.depth ≤ 40) : PySem.SeqAt.shaped d = true := by
  unfold PySem.SeqAt.shaped
  simp only [h, Bool.true_and, decide_eq_true_eq]
  omega
theorem op_eqD {X : Cx} {k : Nat} (hr : Room k X.A) (hs : True) : OpR X (compareOp .Eq) rEqD := by
  intro pins s σ H x y u v Q I rx ry h
  obtain ⟨d, e, hd, he, cd, ce, dd, de, q⟩ := h
  obtain ⟨as, ra⟩ := reads_dv I.hok _ _ _ hd rx
  obtain ⟨bs, rb⟩ := reads_dv I.hok _ _ _ he ry
  exact eq_dataH ra rb (shaped_of cd dd) (shaped_of ce de) hr.units ⟨.bl (PyData.eqv d e), H, I, rfl, q⟩
theorem op_neD {X : Cx} {k : Nat} (hr : Room k X.A) (hs : True) : OpR X (compareOp .NotEq) rNeD := by
  intro pins s σ H x y u v Q I rx ry h
  obtain ⟨d, e, hd, he, cd, ce, dd, de, q⟩ := h
  obtain ⟨as, ra⟩ := reads_dv I.hok _ _ _ hd rx
  obtain ⟨bs, rb⟩ := reads_dv I.hok _ _ _ he ry
  exact ne_dataH ra rb (shaped_of cd dd) (shaped_of ce de) hr.units ⟨.bl (!PyData.eqv d e), H, I, rfl, q⟩
end Xv

set_option maxRecDepth 100000
set_option maxHeartbeats 4000000
namespace Xv
open PySem PySem.Spec PyProof.Rows L2
/-! the readings, backwards: one step each -/
section
variable {σ : L2.St} {H : Hp} {Q : VK} {i : Nat} {v : V} {ta tb te : TE} {tr : TA} {r : R2} {rr : List V → Hp → VK → Prop} {g : Int → Int → V} {C : Int → Int → Prop} {a b : Int}
theorem bV (h : σ[i]? = some (some v)) (q : Q v H) : tVar i σ H Q := ⟨v, h, q⟩
theorem bC (q : Q v H) : tC v σ H Q := q
theorem bOp (h : ta σ H fun x H1 => tb σ H1 fun y H2 => r x y H2 Q) : tOp r ta tb σ H Q := h
theorem bUn {u : V → Hp → VK → Prop} (h : ta σ H fun x H1 => u x H1 Q) : tUn u ta σ H Q := h
theorem bI0 (q : Q (g a b) H) : rI0 g (.int a) (.int b) H Q := ⟨a, b, rfl, rfl, q⟩
theorem bI (c : C a b) (q : Q (g a b) H) : rI C g (.int a) (.int b) H Q := ⟨a, b, rfl, rfl, c, q⟩
theorem bCB (h : tr σ H fun vs H1 => rr vs H1 Q) : tCB rr tr σ H Q := h
theorem bIf {tt : TT} (h : tt σ H fun c H1 => if c = true then ta σ H1 Q else tb σ H1 Q) : tIf tt ta tb σ H Q := h
theorem bInt {R : Int → Prop} {S : Prop} (q : R a) : (∃ i, [V.int a] = [V.int i] ∧ R i) ∨ S := .inl ⟨a, rfl, q⟩
theorem bIntB {R : Bool → Prop} {S : Prop} {k : Bool} (q : R k) : S ∨ ∃ k', [V.bl k] = [V.bl k'] ∧ R k' := .inr ⟨k, rfl, q⟩
theorem bTup (h : tr σ H fun xs H1 => xs.length ≤ sizeLine ∧ ∀ p, H1 p = none → Q (.ref p) (upd H1 p (.tup xs))) : tTup tr σ H Q := h
theorem bLst (h : tr σ H fun xs H1 => xs.length ≤ sizeLine ∧ ∀ p, H1 p = none → Q (.ref p) (upd H1 p (.lst xs))) : tLst tr σ H Q := h
end
section
variable {σ : L2.St} {H : Hp} {G : List V → Hp → Prop} {ta : TE} {tr : TA}
theorem bNil (q : G [] H) : tNil σ H G := q
theorem bCons (h : ta σ H fun x H1 => tr σ H1 fun xs H2 => G (x :: xs) H2) : tCons ta tr σ H G := h
end
section
variable {σ : L2.St} {H : Hp} {G : Bool → Hp → Prop} {t u : TT} {te : TE} {k : Bool}
theorem bTest (h : te σ H fun x H1 => ∃ k, x = .bl k ∧ G k H1) : tTest te σ H G := h
theorem bB (h : te σ H fun x H1 => ∃ k, x = .bl k ∧ G k H1) : tB te σ H G := h
theorem bBl {R : Bool → Prop} (q : R k) : ∃ k', V.bl k = .bl k' ∧ R k' := ⟨k, rfl, q⟩
theorem bNot (h : t σ H fun c H1 => G (!c) H1) : tNot t σ H G := h
theorem bOr (h : t σ H fun c H1 => if c = true then G true H1 else u σ H1 G) : tOr t u σ H G := h
theorem bAnd (h : t σ H fun c H1 => if c = true then u σ H1 G else G false H1) : tAnd t u σ H G := h
end
section
variable {σ : L2.St} {H : Hp} {D : Ends} {t u : TS} {te : TE} {ta : TA} {g : TG} {i j : Nat} {c : TT} {v w : V}
theorem bSeq (h : t { D with nx := u D } σ H) : tSeq t u D σ H := h
theorem bAsg (h : te σ H fun x H1 => g x σ H1 D.nx) : tAsg te g D σ H := h
theorem bName {N : L2.St → Hp → Prop} (q : N (σ.set i (some v)) H) : gName i v σ H N := q
theorem bRet (h : te σ H D.rt) : tRet te D σ H := h
theorem bDrop (h : te σ H fun _ H1 => D.nx σ H1) : tDrop te D σ H := h
theorem bIfS (h : c σ H fun b H1 => if b = true then t D σ H1 else u D σ H1) : tIfS c t u D σ H := h
theorem bNext (h : D.nx σ H) : tNext D σ H := h
theorem bPar (h : ta σ H fun vs H1 => ∃ v w, vs = [v, w] ∧ D.nx ((σ.set i (some v)).set j (some w)) H1) : tPar i j ta D σ H := h
theorem bPar2 {R : V → V → Prop} (q : R v w) : ∃ v' w', [v, w] = [v', w'] ∧ R v' w' := ⟨v, w, rfl, q⟩
end
theorem bSub {to ti : TE} {t : TSet} {σ : L2.St} {H : Hp} {v : V} {N : L2.St → Hp → Prop} (h : to σ H fun o H1 => ti σ H1 fun i H2 => t o i v H2 fun H3 => N σ H3) : gSub to ti t v σ H N := h
theorem bIxL {K : PySem.W.Frag} {H : Hp} {Q : VK} {p : Addr} {xs : List V} {i : Int} {v : V} (hp : H p = some (.lst xs)) (ha : atI xs i = some v) (q : Q v H) : rIxL K (.ref p) (.int i) H Q := ⟨p, xs, i, v, rfl, rfl, SqL.of hp, ha, q⟩
theorem bSetL {H : Hp} {Q : Hp → Prop} {p : Addr} {xs : List V} {i : Int} {j : Nat} {v : V} (hp : H p = some (.lst xs)) (hj : ixN xs.length i = some j) (q : Q (upd H p (.lst (xs.set j v)))) : rSetL (.ref p) (.int i) v H Q := ⟨p, xs, i, j, rfl, rfl, hp, hj, q⟩
theorem bCall {sp : Sp} {dvs : List V} {E : XK} {t : TA} {σ : L2.St} {H : Hp} {Q : VK} (h : t σ H fun vs H1 => sp (vs ++ dvs) H1 Q E) : tCall sp dvs E t σ H Q := h
/-! a value where ways meet -/
def tMeet (t : TE) : TE := fun σ H Q => ∃ Q0 : VK, t σ H Q0 ∧ ∀ x H1, Q0 x H1 → Q x H1
theorem pe_meet {X : Cx} {e : Expr} {t : TE} (h : PE X e t) : PE X e (tMeet t) := by
  refine ⟨fun pins s σ H Q I hh => ?_⟩
  obtain ⟨Q0, h0, hq⟩ := hh
  exact wpAny_mono (h.run pins s σ H Q0 I h0) (fun u s1 ⟨v, H1, I1, r, q⟩ => ⟨v, H1, I1, r, hq _ _ q⟩) fun _ _ x => x
/-- an int, the heap as it was -/
theorem bMeetI {t : TE} {σ : L2.St} {H : Hp} {Q : VK} (P : Int → Prop) (h : t σ H fun x H1 => H1 = H ∧ ∃ c, x = .int c ∧ P c) (k : ∀ c, P c → Q (.int c) H) : tMeet t σ H Q := by
  refine ⟨_, h, fun x H1 hx => ?_⟩
  obtain ⟨rfl, c, rfl, p⟩ := hx
  exact k c p
theorem atI_of {α : Type} {xs : List α} {k : Int} {v : α} (h0 : 0 ≤ k) (h : xs[k.toNat]? = some v) : atI xs k = some v := by
  have e : ((k.toNat : Nat) : Int) = k := Int.toNat_of_nonneg h0
  rw [← e]
  exact atI_nat h
theorem cutV_mem {xs : List V} {lo hi : Option Int} {x : V} {i : Nat} (h : (cutV xs lo hi)[i]? = some x) : x ∈ xs := by
  unfold cutV at h
  exact List.mem_of_mem_drop (List.mem_of_mem_take (List.mem_of_getElem? h))
theorem bIte {A B : Prop} {b : Bool} (h1 : b = true → A) (h2 : b = false → B) : if b = true then A else B := by
  cases b with
  | true => exact h1 rfl
  | false => exact h2 rfl
theorem bDec {A B p : Prop} {i : Decidable p} (h1 : p → A) (h2 : ¬ p → B) : if @decide p i = true then A else B := by
  by_cases h : p
  · rw [if_pos (decide_eq_true h)]
    exact h1 h
  · rw [if_neg (fun z => h (of_decide_eq_true z))]
    exact h2 h
end Xv

set_option maxRecDepth 100000
set_option maxHeartbeats 4000000
namespace Xv
open PySem PySem.Spec PyProof.Rows L2
theorem same_new {H : Hp} {p : Addr} {o : HO} (h : H p = none) : Same H (upd H p o) := fun b u e => by
  rw [upd_ne (ne_of_none e h)]
  exact e
theorem DV.i {H : Hp} (i : Int) : DV H (.int i) (.int i) := by simp only [DV]
theorem DV.s {H : Hp} (x : Str) : DV H (.str x) (.str x) := by simp only [DV]
theorem DV.b {H : Hp} (b : Bool) : DV H (.bool b) (.bl b) := by simp only [DV]
theorem DV.n {H : Hp} : DV H .none .non := by simp only [DV]
theorem DV.l {H : Hp} {a : Addr} {xs : List V} {ds : List PyData} (h : H a = some (.lst xs)) (q : DVs H ds xs) : DV H (.list ds) (.ref a) := by
  simp only [DV]
  exact ⟨a, xs, rfl, h, q⟩
theorem DV.t {H : Hp} {a : Addr} {xs : List V} {ds : List PyData} (h : H a = some (.tup xs)) (q : DVs H ds xs) : DV H (.tuple ds) (.ref a) := by
  simp only [DV]
  exact ⟨a, xs, rfl, h, q⟩
theorem DV.d {H : Hp} {a : Addr} (h : H a = some (.dK [])) : DV H (.dict []) (.ref a) := by
  simp only [DV]
  exact ⟨True.intro, a, rfl, h⟩
theorem DVs.n {H : Hp} : DVs H [] [] := by simp only [DVs]
theorem DVs.c {H : Hp} {d : PyData} {ds : List PyData} {x : V} {xs : List V} (h : DV H d x) (r : DVs H ds xs) : DVs H (d :: ds) (x :: xs) := by
  simp only [DVs]
  exact ⟨x, xs, rfl, h, r⟩
theorem DV.li {H : Hp} {ds : List PyData} {v : V} (h : DV H (.list ds) v) : ∃ a xs, v = .ref a ∧ H a = some (.lst xs) ∧ DVs H ds xs := by simpa only [DV] using h
theorem DV.ti {H : Hp} {ds : List PyData} {v : V} (h : DV H (.tuple ds) v) : ∃ a xs, v = .ref a ∧ H a = some (.tup xs) ∧ DVs H ds xs := by simpa only [DV] using h
theorem DVs.ni {H : Hp} {xs : List V} (h : DVs H [] xs) : xs = [] := by simpa only [DVs] using h
theorem DVs.ci {H : Hp} {d : PyData} {ds : List PyData} {xs : List V} (h : DVs H (d :: ds) xs) : ∃ x r, xs = x :: r ∧ DV H d x ∧ DVs H ds r := by simpa only [DVs] using h
theorem DVs.len {H : Hp} : ∀ {ds : List PyData} {xs : List V}, DVs H ds xs → xs.length = ds.length
  | [], xs, h => by rw [h.ni]; rfl
  | d :: ds, xs, h => by
    obtain ⟨x, r, rfl, _, h2⟩ := h.ci
    rw [List.length_cons, List.length_cons, DVs.len h2]
theorem DVs.app {H : Hp} : ∀ {ds es : List PyData} {xs ys : List V}, DVs H ds xs → DVs H es ys → DVs H (ds ++ es) (xs ++ ys)
  | [], es, xs, ys, h, g => by
    rw [h.ni]
    exact g
  | d :: ds, es, xs, ys, h, g => by
    obtain ⟨x, r, rfl, h1, h2⟩ := h.ci
    exact .c h1 (DVs.app h2 g)
theorem DVs.at_ {H : Hp} : ∀ {ds : List PyData} {xs : List V} {i : Nat} {d : PyData}, DVs H ds xs → ds[i]? = some d → ∃ x, xs[i]? = some x ∧ DV H d x
  | [], xs, i, d, h, e => by simp at e
  | c :: ds, xs, 0, d, h, e => by
    obtain ⟨x, r, rfl, h1, h2⟩ := h.ci
    have e' : c = d := by simpa using e
    subst e'
    exact ⟨x, rfl, h1⟩
  | c :: ds, xs, i + 1, d, h, e => by
    obtain ⟨x, r, rfl, h1, h2⟩ := h.ci
    exact DVs.at_ (i := i) h2 (by simpa using e)
/-! what a store into a list of three numbers at p leaves of data -/
mutual
def okD : PyData → Bool
  | .list ds => ds.length != 3 && okDs ds
  | .tuple ds => okDs ds
  | _ => true
def okDs : List PyData → Bool
  | [] => true
  | d :: ds => okD d && okDs ds
end
/-- all but what stands at p is kept -/
def Oth (p : Addr) (H H' : Hp) : Prop := ∀ b o, b ≠ p → H b = some o → H' b = some o
theorem Oth.of {p : Addr} {H H' : Hp} (s : Same H H') : Oth p H H' := fun b o _ e => s b o e
theorem Oth.trans {p : Addr} {H H1 H2 : Hp} (a : Oth p H H1) (b : Oth p H1 H2) : Oth p H H2 := fun c o n e => b c o n (a c o n e)
mutual
theorem DV.oth {H H' : Hp} {p : Addr} {x y z : V} (hp : H p = some (.lst [x, y, z])) (s : Oth p H H') : ∀ (d : PyData) (v : V), okD d = true → DV H d v → DV H' d v
  | .none, _, _, h => h
  | .bool _, _, _, h => h
  | .int _, _, _, h => h
  | .str _, _, _, h => h
  | .list ds, v, k, h => by
    obtain ⟨a, xs, rfl, ha, hx⟩ := h.li
    simp only [okD, Bool.and_eq_true, bne_iff_ne] at k
    refine .l (s a _ (fun e => ?_) ha) (DVs.oth hp s ds xs k.2 hx)
    rw [e, hp] at ha
    have e2 := Option.some.inj ha
    injection e2 with e3
    rw [← e3] at hx
    exact k.1 hx.len.symm
  | .tuple ds, v, k, h => by
    obtain ⟨a, xs, rfl, ha, hx⟩ := h.ti
    have k' : okDs ds = true := by simpa only [okD] using k
    refine .t (s a _ (fun e => ?_) ha) (DVs.oth hp s ds xs k' hx)
    rw [e, hp] at ha
    cases ha
  | .dict kvs, v, k, h => by
    obtain ⟨rfl, a, rfl, ha⟩ := (show kvs = [] ∧ ∃ a, v = .ref a ∧ H a = some (.dK []) from by simpa only [DV] using h)
    refine .d (s a _ (fun e => ?_) ha)
    rw [e, hp] at ha
    cases ha
theorem DVs.oth {H H' : Hp} {p : Addr} {x y z : V} (hp : H p = some (.lst [x, y, z])) (s : Oth p H H') : ∀ (ds : List PyData) (xs : List V), okDs ds = true → DVs H ds xs → DVs H' ds xs
  | [], _, _, h => h
  | d :: ds, xs, k, h => by
    obtain ⟨u, r, rfl, h1, h2⟩ := h.ci
    simp only [okDs, Bool.and_eq_true] at k
    exact .c (DV.oth hp s d u k.1 h1) (DVs.oth hp s ds r k.2 h2)
end
/-! displays of plain data: one step -/
def tData (d : PyData) : TE := fun _ H Q => ∀ v H', Same H H' → DV H' d v → Q v H'
def tDatas (ds : List PyData) : TA := fun _ H G => ∀ xs H', Same H H' → DVs H' ds xs → G xs H'
section
variable {X : Cx} {e : Expr} {es : List Expr} {d : PyData} {ds : List PyData} {pos : Pos} {j : Nat}
theorem pe_imp {t u : TE} (h : PE X e t) (i : ∀ σ H Q, u σ H Q → t σ H Q) : PE X e u := ⟨fun pins s σ H Q I q => h.run pins s σ H Q I (i σ H Q q)⟩
theorem pa_imp {t u : TA} (h : PA X es t) (i : ∀ σ H Q, u σ H Q → t σ H Q) : PA X es u := ⟨fun pos pins s σ H Q I q => h.run pos pins s σ H Q I (i σ H Q q)⟩
theorem dI {i : Int} : PE X (.Constant (.int i) j pos) (tData (.int i)) := pe_imp pe_int fun _ H Q q => q _ H (fun _ _ e => e) (.i i)
theorem dS {x : Str} : PE X (.Constant (.str x) j pos) (tData (.str x)) := pe_imp pe_str fun _ H Q q => q _ H (fun _ _ e => e) (.s x)
theorem dB {b : Bool} : PE X (.Constant (.bool b) j pos) (tData (.bool b)) := pe_imp pe_bl fun _ H Q q => q _ H (fun _ _ e => e) (.b b)
theorem dN : PE X (.Constant .none j pos) (tData .none) := pe_imp pe_non fun _ H Q q => q _ H (fun _ _ e => e) .n
theorem dNeg {e : Expr} {i : Int} (h : PE X e (tData (.int i))) : PE X (.UnaryOp .USub e pos) (tData (.int (-i))) := pe_imp (pe_un un_neg h) fun σ H Q q => by
  intro v H' s hd
  have e : v = .int i := by simpa only [DV] using hd
  subst e
  exact ⟨i, rfl, q _ H' s (.i _)⟩
theorem dPow {e f : Expr} {a b : Int} (h : PE X e (tData (.int a))) (g : PE X f (tData (.int b))) (c : CPow a b) : PE X (.BinOp e .Pow f pos) (tData (.int (a ^ b.toNat))) := pe_imp (pe_op op_pow h g) fun σ H Q q => by
  intro v H' s hd u H'' s' hd'
  have e : v = .int a := by simpa only [DV] using hd
  have e' : u = .int b := by simpa only [DV] using hd'
  subst e
  subst e'
  exact ⟨a, b, rfl, rfl, c, q _ H'' (fun b o z => s' b o (s b o z)) (.i _)⟩
theorem dNil : PA X [] (tDatas []) := pa_imp pa_nil fun _ H G q => q _ H (fun _ _ e => e) .n
theorem dCons (h : PE X e (tData d)) (r : PA X es (tDatas ds)) (hs : starEach (e :: es) X.env = (false, eval e X.env) :: starEach es X.env := by rfl) : PA X (e :: es) (tDatas (d :: ds)) := pa_imp (pa_cons h r hs) fun σ H G q => by
  intro v H1 s1 hd xs H2 s2 hds
  exact q _ H2 (fun b o z => s2 b o (s1 b o z)) (.c (DV.same s2 d v hd) hds)
theorem dT (h : PA X es (tDatas ds)) (hl : ds.length ≤ sizeLine := by first | decide | (simp only [List.length_cons, List.length_nil, List.length_append]; decide)) : PE X (.Tuple es j pos) (tData (.tuple ds)) := pe_imp (pe_tup h) fun σ H Q q => by
  intro xs H1 s1 hds
  refine ⟨by rw [hds.len]; exact hl, fun p hp => q _ _ (fun b o z => same_new hp b o (s1 b o z)) (.t upd_same (DVs.same (same_new hp) ds xs hds))⟩
theorem dL (h : PA X es (tDatas ds)) (hl : ds.length ≤ sizeLine := by first | decide | (simp only [List.length_cons, List.length_nil, List.length_append]; decide)) : PE X (.List es pos) (tData (.list ds)) := pe_imp (pe_lst h) fun σ H Q q => by
  intro xs H1 s1 hds
  refine ⟨by rw [hds.len]; exact hl, fun p hp => q _ _ (fun b o z => same_new hp b o (s1 b o z)) (.l upd_same (DVs.same (same_new hp) ds xs hds))⟩
theorem dD : PE X (.Dict [] [] pos) (tData (.dict [])) := pe_imp pe_dnewK fun σ H Q q => by
  intro p hp
  exact q _ _ (same_new hp) (.d upd_same)
end
/-- data that a name holds, or anything else: the value is told, its data too -/
theorem bData {d : PyData} {σ : L2.St} {H : Hp} {Q : VK} (h : ∀ v H', Same H H' → DV H' d v → Q v H') : tData d σ H Q := h
end Xv

set_option maxRecDepth 100000
set_option maxHeartbeats 4000000
namespace Xv
open PySem PySem.Spec PyProof.Rows L2
/-! expressions whose value is plain data, the heap only grown: Pre tells what they lean on -/
def Grows (Pre : L2.St → Hp → Prop) : Prop := ∀ σ H H', Same H H' → Pre σ H → Pre σ H'
def tDat (Pre : L2.St → Hp → Prop) (d : PyData) : TE := fun σ H Q => Pre σ H ∧ ∀ v H', Same H H' → DV H' d v → Q v H'
def tDats (Pre : L2.St → Hp → Prop) (ds : List PyData) : TA := fun σ H G => Pre σ H ∧ ∀ xs H', Same H H' → DVs H' ds xs → G xs H'
theorem sThn {H H1 H2 : Hp} (a : Same H H1) (b : Same H1 H2) : Same H H2 := fun c o e => b c o (a c o e)
theorem sId {H : Hp} : Same H H := fun _ _ e => e
/-- an exception of the class at C -/
def ExV (K : PySem.W.Frag) (H : Hp) (a C : Addr) : Prop := (∃ bmB newId, XC K C bmB newId) ∧ ∃ d, H a = some (exo a C d) ∧ ∀ dd, d = some dd → ∃ fs, H dd = some (exd dd fs)
/-- .. whose field f is v -/
def ExF (K : PySem.W.Frag) (H : Hp) (a C : Addr) (f : Str) (v : V) : Prop := (∃ bmB newId, XC K C bmB newId) ∧ PySem.W.findIn K (.ref C) f = some none ∧ ∃ d fs, H a = some (exo a C (some d)) ∧ H d = some (exd d fs) ∧ fs.lookup f = some v
theorem ExV.same {K : PySem.W.Frag} {H H' : Hp} {a C : Addr} (s : Same H H') (h : ExV K H a C) : ExV K H' a C := by
  obtain ⟨c, d, h1, h2⟩ := h
  refine ⟨c, d, s _ _ h1, fun dd e => ?_⟩
  obtain ⟨fs, h3⟩ := h2 dd e
  exact ⟨fs, s _ _ h3⟩
theorem ExF.same {K : PySem.W.Frag} {H H' : Hp} {a C : Addr} {f : Str} {v : V} (s : Same H H') (h : ExF K H a C f v) : ExF K H' a C f v := by
  obtain ⟨c, n, d, fs, h1, h2, h3⟩ := h
  exact ⟨c, n, d, fs, s _ _ h1, s _ _ h2, h3⟩
theorem ExF.v {K : PySem.W.Frag} {H : Hp} {a C : Addr} {f : Str} {v : V} (h : ExF K H a C f v) : ExV K H a C := by
  obtain ⟨c, n, d, fs, h1, h2, h3⟩ := h
  exact ⟨c, some d, h1, fun dd e => by cases e; exact ⟨fs, h2⟩⟩
section
variable {X : Cx} {e f : Expr} {es : List Expr} {d g : PyData} {ds hs : List PyData} {pos p : Pos} {j i : Nat} {Pre : L2.St → Hp → Prop}
theorem pd_data (h : PE X e (tData d)) : PE X e (tDat Pre d) := pe_imp h fun σ H Q q => q.2
theorem pdI {i : Int} : PE X (.Constant (.int i) j pos) (tDat Pre (.int i)) := pd_data dI
theorem pdS {x : Str} : PE X (.Constant (.str x) j pos) (tDat Pre (.str x)) := pd_data dS
theorem pdB {b : Bool} : PE X (.Constant (.bool b) j pos) (tDat Pre (.bool b)) := pd_data dB
theorem pdN : PE X (.Constant .none j pos) (tDat Pre .none) := pd_data dN
theorem pdV (h : PE X e (tVar i)) (hv : ∀ σ H, Pre σ H → ∃ v, σ[i]? = some (some v) ∧ DV H d v) : PE X e (tDat Pre d) := pe_imp h fun σ H Q q => by
  obtain ⟨v, e1, e2⟩ := hv σ H q.1
  exact ⟨v, e1, q.2 v H sId e2⟩
theorem pdG {v : V} (h : PE X e (tC v)) (hv : ∀ H, DV H d v) : PE X e (tDat Pre d) := pe_imp h fun σ H Q q => q.2 v H sId (hv H)
theorem pdNil : PA X [] (tDats Pre []) := pa_imp pa_nil fun _ H G q => q.2 _ H sId .n
theorem pdCons (gr : Grows Pre) (h : PE X e (tDat Pre d)) (r : PA X es (tDats Pre ds)) (hst : starEach (e :: es) X.env = (false, eval e X.env) :: starEach es X.env := by rfl) : PA X (e :: es) (tDats Pre (d :: ds)) := pa_imp (pa_cons h r hst) fun σ H G q => by
  refine ⟨q.1, fun v H1 s1 hd => ⟨gr _ _ _ s1 q.1, fun xs H2 s2 hds => ?_⟩⟩
  exact q.2 _ H2 (sThn s1 s2) (.c (DV.same s2 d v hd) hds)
theorem pdT (h : PA X es (tDats Pre ds)) (hl : ds.length ≤ sizeLine := by first | decide | (simp only [List.length_cons, List.length_nil, List.length_append]; decide)) : PE X (.Tuple es j pos) (tDat Pre (.tuple ds)) := pe_imp (pe_tup h) fun σ H Q q => by
  refine ⟨q.1, fun xs H1 s1 hds => ⟨by rw [hds.len]; exact hl, fun p hp => q.2 _ _ (sThn s1 (same_new hp)) (.t upd_same (DVs.same (same_new hp) ds xs hds))⟩⟩
theorem pdL (h : PA X es (tDats Pre ds)) (hl : ds.length ≤ sizeLine := by first | decide | (simp only [List.length_cons, List.length_nil, List.length_append]; decide)) : PE X (.List es pos) (tDat Pre (.list ds)) := pe_imp (pe_lst h) fun σ H Q q => by
  refine ⟨q.1, fun xs H1 s1 hds => ⟨by rw [hds.len]; exact hl, fun p hp => q.2 _ _ (sThn s1 (same_new hp)) (.l upd_same (DVs.same (same_new hp) ds xs hds))⟩⟩
theorem pdCat (gr : Grows Pre) (h : PE X e (tDat Pre (.list ds))) (r : PE X f (tDat Pre (.list hs))) (hl : ds.length + hs.length ≤ sizeLine := by first | decide | (simp only [List.length_cons, List.length_nil, List.length_append]; decide)) : PE X (.BinOp e .Add f pos) (tDat Pre (.list (ds ++ hs))) := pe_imp (pe_op op_cat h r) fun σ H Q q => by
  refine ⟨q.1, fun v H1 s1 hd => ⟨gr _ _ _ s1 q.1, fun u H2 s2 hd2 => ?_⟩⟩
  obtain ⟨a, xs, rfl, ha, hx⟩ := (DV.same s2 _ _ hd).li
  obtain ⟨b, ys, rfl, hb, hy⟩ := hd2.li
  refine ⟨a, b, xs, ys, rfl, rfl, ha, hb, by rw [hx.len, hy.len]; exact hl, fun p hp => q.2 _ _ (sThn (sThn s1 s2) (same_new hp)) (.l upd_same (DVs.same (same_new hp) _ _ (hx.app hy)))⟩
/-- isinstance(name, class) -/
theorem pdIs {C : Addr} {c : V} {u : Value} {b : Bool} (O : XO X.K) (hg : Gl X "isinstance") (hm : X.mg "isinstance" = none) (gr : Grows Pre) (h : PE X e (tVar i)) (hc : PE X f (tC c)) (cv : ClsV c u) (hk : PySem.W.kitOne X.K (.ref C) u = some b)
    (hP : ∀ σ H, Pre σ H → ∃ a, σ[i]? = some (some (.ref a)) ∧ ExV X.K H a C)
    (he : starEach [e, f] X.env = (false, eval e X.env) :: starEach [f] X.env := by rfl) (he2 : starEach [f] X.env = (false, eval f X.env) :: starEach [] X.env := by rfl) (hpl : (backTo pos (starEach [f] X.env)).any (·.1) = false := by rfl) :
    PE X (.Call (.Name "isinstance" p) [e, f] [] pos) (tDat Pre (.bool b)) :=
  pe_imp (pe_callB (call_isX O) hg hm (by decide +kernel) (pa_cons h (pa_cons hc pa_nil he2) he) (by decide) (by decide) he hpl) fun σ H Q q => by
    obtain ⟨a, e1, ⟨t, d, h1, h2⟩⟩ := hP σ H q.1
    exact ⟨_, e1, a, C, d, c, u, b, rfl, cv, h1, h2, t, hk, q.2 _ H sId (.b b)⟩
/-- repr(e) -/
theorem pdRepr {k : Nat} (hr : Room k X.A) (hgd : X.A.guards = some []) (hsys : True) (hg : Gl X "repr") (hm : X.mg "repr" = none) (h : PE X e (tDat Pre d)) (sh : d.showable = true) (dp : d.depth ≤ 40) (sz : d.shown.length ≤ sizeLine)
    (hi : ∀ i, d = .int i → i.natAbs.log2 < 1920) (he : starEach [e] X.env = (false, eval e X.env) :: starEach [] X.env := by rfl) : PE X (.Call (.Name "repr" p) [e] [] pos) (tDat Pre (.str d.shown)) :=
  pe_imp (pe_callB (call_repr hr hgd hsys) hg hm (by decide +kernel) (pa_cons h pa_nil he) (by decide) (by decide) he (by rfl)) fun σ H Q q =>
    ⟨q.1, fun v H1 s1 hd => ⟨v, d, rfl, hd, sh, dp, sz, hi, q.2 _ H1 s1 (.s _)⟩⟩
/-- e.f of an exception -/
theorem pdXf {fn : Str} {C : Addr} (h : PE X e (tVar i)) (hP : ∀ σ H, Pre σ H → ∃ a v, σ[i]? = some (some (.ref a)) ∧ ExF X.K H a C fn v ∧ DV H d v) (hb : attributeBase e fn X.env (eval e X.env) = eval e X.env := by rfl) :
    PE X (.Attribute e fn pos) (tDat Pre d) := pe_imp (Xv.pe_xf h hb) fun σ H Q q => by
  obtain ⟨a, v, e1, ⟨t, no, dd, fs, h1, h2, h3⟩, hd⟩ := hP σ H q.1
  exact ⟨_, e1, a, C, dd, fs, v, rfl, h1, h2, t, no, h3, q.2 v H sId hd⟩
/-- e == f, e != f -/
theorem pdEq {k : Nat} (hr : Room k X.A) (hsys : True) (gr : Grows Pre) (h : PE X e (tDat Pre d)) (r : PE X f (tDat Pre g)) (c1 : PyData.canLay0 d = true) (c2 : PyData.canLay0 g = true) (d1 : d.depth ≤ 40) (d2 : g.depth ≤ 40)
    (hm : behindInMarks .Eq f = false := by rfl) : PE X (.Compare e [.Eq] [f] pos) (tDat Pre (.bool (PyData.eqv d g))) := pe_imp (pe_cmpR (op_eqD hr hsys) h r hm) fun σ H Q q => by
  refine ⟨q.1, fun v H1 s1 hd => ⟨gr _ _ _ s1 q.1, fun u H2 s2 hd2 => ⟨d, g, DV.same s2 _ _ hd, hd2, c1, c2, d1, d2, q.2 _ H2 (sThn s1 s2) (.b _)⟩⟩⟩
theorem pdNe {k : Nat} (hr : Room k X.A) (hsys : True) (gr : Grows Pre) (h : PE X e (tDat Pre d)) (r : PE X f (tDat Pre g)) (c1 : PyData.canLay0 d = true) (c2 : PyData.canLay0 g = true) (d1 : d.depth ≤ 40) (d2 : g.depth ≤ 40)
    (hm : behindInMarks .NotEq f = false := by rfl) : PE X (.Compare e [.NotEq] [f] pos) (tDat Pre (.bool (!PyData.eqv d g))) := pe_imp (pe_cmpR (op_neD hr hsys) h r hm) fun σ H Q q => by
  refine ⟨q.1, fun v H1 s1 hd => ⟨gr _ _ _ s1 q.1, fun u H2 s2 hd2 => ⟨d, g, DV.same s2 _ _ hd, hd2, c1, c2, d1, d2, q.2 _ H2 (sThn s1 s2) (.b _)⟩⟩⟩
theorem pdAdd {a b : Int} (gr : Grows Pre) (h : PE X e (tDat Pre (.int a))) (r : PE X f (tDat Pre (.int b))) : PE X (.BinOp e .Add f pos) (tDat Pre (.int (a + b))) := pe_imp (pe_op op_add h r) fun σ H Q q => by
  refine ⟨q.1, fun v H1 s1 hd => ⟨gr _ _ _ s1 q.1, fun u H2 s2 hd2 => ?_⟩⟩
  have e1 : v = .int a := by simpa only [DV] using hd
  have e2 : u = .int b := by simpa only [DV] using hd2
  subst e1
  subst e2
  exact ⟨a, b, rfl, rfl, q.2 _ H2 (sThn s1 s2) (.i _)⟩
/-- ds * n, n written -/
theorem pdRep {n : Int} (gr : Grows Pre) (h : PE X e (tDat Pre (.list ds))) (r : PE X f (tDat Pre (.int n))) (h0 : -(2 ^ 63) ≤ n := by decide) (h1 : n < 2 ^ 63 := by decide) (hl : ds.length * n.toNat ≤ sizeLine := by first | decide | (simp only [List.length_cons, List.length_nil, List.length_append]; decide)) :
    PE X (.BinOp e .Mult f pos) (tDat Pre (.list (List.replicate n.toNat ds).flatten)) := pe_imp (pe_op op_rep h r) fun σ H Q q => by
  refine ⟨q.1, fun v H1 s1 hd => ⟨gr _ _ _ s1 q.1, fun u H2 s2 hd2 => ?_⟩⟩
  obtain ⟨a, xs, rfl, ha, hx⟩ := (DV.same s2 _ _ hd).li
  have eu : u = .int n := by simpa only [DV] using hd2
  subst eu
  refine ⟨a, n, xs, rfl, rfl, ha, h0, h1, by rw [hx.len]; exact hl, fun p hp => q.2 _ _ (sThn (sThn s1 s2) (same_new hp)) (.l upd_same (DVs.same (same_new hp) _ _ ?_))⟩
  generalize n.toNat = m
  induction m with
  | zero => exact .n
  | succ m ih =>
    rw [List.replicate_succ, List.flatten_cons, List.replicate_succ, List.flatten_cons]
    exact hx.app ih
end
theorem bDat {Pre : L2.St → Hp → Prop} {d : PyData} {σ : L2.St} {H : Hp} {Q : VK} (p : Pre σ H) (q : ∀ v H', Same H H' → DV H' d v → Q v H') : tDat Pre d σ H Q := ⟨p, q⟩
theorem bCat {H : Hp} {x y : V} {ds es : List PyData} {Q : VK} (h1 : DV H (.list ds) x) (h2 : DV H (.list es) y) (hl : ds.length + es.length ≤ sizeLine) (q : ∀ v H', Same H H' → DV H' (.list (ds ++ es)) v → Q v H') : rCat x y H Q := by
  obtain ⟨a, xs, rfl, ha, hx⟩ := h1.li
  obtain ⟨b, ys, rfl, hb, hy⟩ := h2.li
  exact ⟨a, b, xs, ys, rfl, rfl, ha, hb, by rw [hx.len, hy.len]; exact hl, fun p hp => q _ _ (same_new hp) (.l upd_same (DVs.same (same_new hp) _ _ (hx.app hy)))⟩
/-- an item put behind a list of data -/
theorem bApp {H : Hp} {x y : V} {ds : List PyData} {d : PyData} {Q : VK} (h1 : DV H (.list ds) x) (h2 : ∀ H' a, x = .ref a → Oth a H H' → DV H' d y) (h3 : ∀ H' a xs, x = .ref a → Oth a H H' → DVs H ds xs → DVs H' ds xs) (hl : ds.length < sizeLine)
    (q : ∀ a H', x = .ref a → Oth a H H' → DV H' (.list (ds ++ [d])) x → Q .non H') : rAppend x [y] H Q := by
  obtain ⟨a, xs, rfl, ha, hx⟩ := h1.li
  have o : Oth a H (upd H a (.lst (xs ++ [y]))) := fun b u n e => by
    rw [upd_ne n]
    exact e
  exact ⟨a, xs, y, rfl, rfl, ha, by rw [hx.len]; exact hl, q a _ rfl o (.l upd_same ((h3 _ a xs rfl o hx).app (.c (h2 _ a rfl o) .n)))⟩
/-- flat data leans on no object -/
def flatD : PyData → Bool
  | .list _ => false
  | .tuple _ => false
  | .dict _ => false
  | _ => true
theorem DV.flat {H H' : Hp} : ∀ {d : PyData} {v : V}, flatD d = true → DV H d v → DV H' d v
  | .none, v, _, h => by
    have e : v = .non := by simpa only [DV] using h
    subst e
    exact .n
  | .bool b, v, _, h => by
    have e : v = .bl b := by simpa only [DV] using h
    subst e
    exact .b b
  | .int i, v, _, h => by
    have e : v = .int i := by simpa only [DV] using h
    subst e
    exact .i i
  | .str x, v, _, h => by
    have e : v = .str x := by simpa only [DV] using h
    subst e
    exact .s x
theorem DVs.flat {H H' : Hp} : ∀ {ds : List PyData} {xs : List V}, ds.all flatD = true → DVs H ds xs → DVs H' ds xs
  | [], xs, _, h => by
    rw [h.ni]
    exact .n
  | d :: ds, xs, k, h => by
    obtain ⟨x, r, rfl, h1, h2⟩ := h.ci
    rw [List.all_cons, Bool.and_eq_true] at k
    exact .c (DV.flat k.1 h1) (DVs.flat k.2 h2)
theorem bAppF {H : Hp} {x y : V} {ds : List PyData} {d : PyData} {Q : VK} (h1 : DV H (.list ds) x) (fl : ds.all flatD = true) (h2 : DV H d y) (fd : flatD d = true) (hl : ds.length < sizeLine)
    (q : ∀ a xs H', x = .ref a → H a = some (.lst xs) → Oth a H H' → DV H' (.list (ds ++ [d])) x → Q .non H') : rAppend x [y] H Q := by
  obtain ⟨a, xs, e, ha, hx⟩ := h1.li
  exact bApp h1 (fun H' a _ _ => DV.flat fd h2) (fun H' a xs _ _ h => DVs.flat fl h) hl fun a' H' e' o h => by
    rw [e] at e'
    cases e'
    exact q a xs H' e ha o h
theorem ExV.oth {K : PySem.W.Frag} {H H' : Hp} {e C a : Addr} {xs : List V} (h : ExV K H e C) (ha : H a = some (.lst xs)) (o : Oth a H H') : ExV K H' e C := by
  obtain ⟨c, d, h1, h2⟩ := h
  refine ⟨c, d, o _ _ (fun z => ?_) h1, fun dd ed => ?_⟩
  · rw [z, ha] at h1
    have z2 : HO.lst xs = HO.ext _ := Option.some.inj h1
    cases z2
  · obtain ⟨fs, h3⟩ := h2 dd ed
    refine ⟨fs, o _ _ (fun z => ?_) h3⟩
    rw [z, ha] at h3
    have z2 : HO.lst xs = HO.ext _ := Option.some.inj h3
    cases z2
theorem bBM {K : PySem.W.Frag} {T : String} {r : V → List V → Hp → VK → Prop} {to : TE} {t : TA} {σ : L2.St} {H : Hp} {Q : VK} (h : to σ H fun x H1 => tyV K T x H1 ∧ t σ H1 fun xs H2 => r x xs H2 Q) : tBM K T r to t σ H Q := h
theorem tyL {K : PySem.W.Frag} {H : Hp} {v : V} {ds : List PyData} (h : DV H (.list ds) v) : tyV K "list" v H := by
  obtain ⟨a, xs, rfl, ha, _⟩ := h.li
  exact Or.inl ⟨rfl, _, Or.inl (Or.inl ha)⟩
end Xv

set_option maxRecDepth 100000
set_option maxHeartbeats 4000000
namespace Pv
open PySem PySem.Spec PyProof.Rows L2 Xv
/-! plain things of a program, without a heap -/
inductive Dt where
  | non | bl (b : Bool) | int (i : Int) | str (x : Str)
  | lst (ds : List Dt) | tup (ds : List Dt) | obj (C : Addr) (ks : List Str) (ds : List Dt)
  | raw (v : V) | slot (i : Nat) | fre (ds : List Dt) | rg (lo hi : Int)
mutual
/-- v is worth d; no list of it stands in A -/
def R (K : PySem.W.Frag) (A : List Addr) (H : Hp) : Dt → V → Prop
  | .non, v => v = .non
  | .bl b, v => v = .bl b
  | .int i, v => v = .int i
  | .str x, v => v = .str x
  | .lst ds, v => ∃ a xs, v = .ref a ∧ a ∉ A ∧ H a = some (.lst xs) ∧ Rs K A H ds xs
  | .tup ds, v => ∃ a xs, v = .ref a ∧ H a = some (.tup xs) ∧ Rs K A H ds xs
  | .obj C ks ds, v => ∃ a dx xs, v = .ref a ∧ H a = some (.ins C dx (ks.zip xs)) ∧ Rs K A H ds xs
  | .raw u, v => v = u
  | .rg lo hi, v => ∃ a, v = .ref a ∧ H a = some (.rng lo hi)
  | .slot _, _ => False
  | .fre _, _ => False
def Rs (K : PySem.W.Frag) (A : List Addr) (H : Hp) : List Dt → List V → Prop
  | [], xs => xs = []
  | d :: ds, xs => ∃ x r, xs = x :: r ∧ R K A H d x ∧ Rs K A H ds r
end
section
variable {K : PySem.W.Frag} {A A' : List Addr} {H H' : Hp}
theorem Rs.n : Rs K A H [] [] := by simp only [Rs]
theorem Rs.c {d : Dt} {ds : List Dt} {x : V} {xs : List V} (h : R K A H d x) (r : Rs K A H ds xs) : Rs K A H (d :: ds) (x :: xs) := by
  simp only [Rs]
  exact ⟨x, xs, rfl, h, r⟩
theorem Rs.ni {xs : List V} (h : Rs K A H [] xs) : xs = [] := by simpa only [Rs] using h
theorem Rs.ci {d : Dt} {ds : List Dt} {xs : List V} (h : Rs K A H (d :: ds) xs) : ∃ x r, xs = x :: r ∧ R K A H d x ∧ Rs K A H ds r := by simpa only [Rs] using h
theorem R.i (i : Int) : R K A H (.int i) (.int i) := by simp only [R]
theorem R.s (x : Str) : R K A H (.str x) (.str x) := by simp only [R]
theorem R.b (b : Bool) : R K A H (.bl b) (.bl b) := by simp only [R]
theorem R.n : R K A H .non .non := by simp only [R]
theorem R.w (v : V) : R K A H (.raw v) v := by simp only [R]
theorem R.l {a : Addr} {xs : List V} {ds : List Dt} (n : a ∉ A) (h : H a = some (.lst xs)) (q : Rs K A H ds xs) : R K A H (.lst ds) (.ref a) := by
  simp only [R]
  exact ⟨a, xs, rfl, n, h, q⟩
theorem R.t {a : Addr} {xs : List V} {ds : List Dt} (h : H a = some (.tup xs)) (q : Rs K A H ds xs) : R K A H (.tup ds) (.ref a) := by
  simp only [R]
  exact ⟨a, xs, rfl, h, q⟩
theorem R.o {C a dx : Addr} {ks : List Str} {xs : List V} {ds : List Dt} (h : H a = some (.ins C dx (ks.zip xs))) (q : Rs K A H ds xs) : R K A H (.obj C ks ds) (.ref a) := by
  simp only [R]
  exact ⟨a, dx, xs, rfl, h, q⟩
theorem R.ii {i : Int} {v : V} (h : R K A H (.int i) v) : v = .int i := by simpa only [R] using h
theorem R.si {x : Str} {v : V} (h : R K A H (.str x) v) : v = .str x := by simpa only [R] using h
theorem R.bi {b : Bool} {v : V} (h : R K A H (.bl b) v) : v = .bl b := by simpa only [R] using h
theorem R.nin {v : V} (h : R K A H .non v) : v = .non := by simpa only [R] using h
theorem R.gi {lo hi : Int} {v : V} (h : R K A H (.rg lo hi) v) : ∃ a, v = .ref a ∧ H a = some (.rng lo hi) := by simpa only [R] using h
theorem R.gg {lo hi : Int} {a : Addr} (h : H a = some (.rng lo hi)) : R K A H (.rg lo hi) (.ref a) := by
  simp only [R]
  exact ⟨a, rfl, h⟩
theorem R.wi {u v : V} (h : R K A H (.raw u) v) : v = u := by simpa only [R] using h
theorem R.li {ds : List Dt} {v : V} (h : R K A H (.lst ds) v) : ∃ a xs, v = .ref a ∧ a ∉ A ∧ H a = some (.lst xs) ∧ Rs K A H ds xs := by simpa only [R] using h
theorem R.ti {ds : List Dt} {v : V} (h : R K A H (.tup ds) v) : ∃ a xs, v = .ref a ∧ H a = some (.tup xs) ∧ Rs K A H ds xs := by simpa only [R] using h
theorem R.oi {C : Addr} {ks : List Str} {ds : List Dt} {v : V} (h : R K A H (.obj C ks ds) v) : ∃ a dx xs, v = .ref a ∧ H a = some (.ins C dx (ks.zip xs)) ∧ Rs K A H ds xs := by simpa only [R] using h
theorem Rs.len : ∀ {ds : List Dt} {xs : List V}, Rs K A H ds xs → xs.length = ds.length
  | [], xs, h => by rw [h.ni]; rfl
  | d :: ds, xs, h => by
    obtain ⟨x, r, rfl, _, h2⟩ := h.ci
    rw [List.length_cons, List.length_cons, Rs.len h2]
theorem Rs.app : ∀ {ds es : List Dt} {xs ys : List V}, Rs K A H ds xs → Rs K A H es ys → Rs K A H (ds ++ es) (xs ++ ys)
  | [], es, xs, ys, h, g => by
    rw [h.ni]
    exact g
  | d :: ds, es, xs, ys, h, g => by
    obtain ⟨x, r, rfl, h1, h2⟩ := h.ci
    exact .c h1 (Rs.app h2 g)
theorem Rs.at_ : ∀ {ds : List Dt} {xs : List V} {i : Nat} {d : Dt}, Rs K A H ds xs → ds[i]? = some d → ∃ x, xs[i]? = some x ∧ R K A H d x
  | [], xs, i, d, h, e => by simp at e
  | c :: ds, xs, 0, d, h, e => by
    obtain ⟨x, r, rfl, h1, h2⟩ := h.ci
    have e' : c = d := by simpa using e
    subst e'
    exact ⟨x, rfl, h1⟩
  | c :: ds, xs, i + 1, d, h, e => by
    obtain ⟨x, r, rfl, h1, h2⟩ := h.ci
    exact Rs.at_ (i := i) h2 (by simpa using e)
theorem Rs.at2 : ∀ {ds : List Dt} {xs : List V} {i : Nat} {x : V}, Rs K A H ds xs → xs[i]? = some x → ∃ d, ds[i]? = some d ∧ R K A H d x
  | [], xs, i, x, h, e => by
    rw [h.ni] at e
    simp at e
  | c :: ds, xs, 0, d, h, e => by
    obtain ⟨x, r, rfl, h1, h2⟩ := h.ci
    have e' : x = d := by simpa using e
    subst e'
    exact ⟨c, rfl, h1⟩
  | c :: ds, xs, i + 1, d, h, e => by
    obtain ⟨x, r, rfl, h1, h2⟩ := h.ci
    exact Rs.at2 (i := i) h2 (by simpa using e)
theorem Rs.tk : ∀ {ds : List Dt} {xs : List V} (n : Nat), Rs K A H ds xs → Rs K A H (ds.take n) (xs.take n)
  | _, _, 0, _ => by
    rw [List.take_zero, List.take_zero]
    exact .n
  | [], xs, n + 1, h => by
    rw [h.ni]
    exact .n
  | c :: ds, xs, n + 1, h => by
    obtain ⟨x, r, rfl, h1, h2⟩ := h.ci
    exact .c h1 (Rs.tk n h2)
theorem Rs.dr : ∀ {ds : List Dt} {xs : List V} (n : Nat), Rs K A H ds xs → Rs K A H (ds.drop n) (xs.drop n)
  | _, _, 0, h => h
  | [], xs, n + 1, h => by
    rw [h.ni]
    exact .n
  | c :: ds, xs, n + 1, h => by
    obtain ⟨x, r, rfl, h1, h2⟩ := h.ci
    exact Rs.dr n h2
theorem Rs.set {d : Dt} {x : V} (hd : R K A H d x) : ∀ {ds : List Dt} {xs : List V} (n : Nat), Rs K A H ds xs → Rs K A H (ds.set n d) (xs.set n x)
  | [], xs, n, h => by
    rw [h.ni]
    exact .n
  | c :: ds, xs, 0, h => by
    obtain ⟨y, r, rfl, h1, h2⟩ := h.ci
    exact .c hd h2
  | c :: ds, xs, n + 1, h => by
    obtain ⟨y, r, rfl, h1, h2⟩ := h.ci
    exact .c h1 (Rs.set hd n h2)
theorem Rs.er : ∀ {ds : List Dt} {xs : List V} (n : Nat), Rs K A H ds xs → Rs K A H (ds.eraseIdx n) (xs.eraseIdx n)
  | [], xs, n, h => by
    rw [h.ni]
    exact .n
  | c :: ds, xs, 0, h => by
    obtain ⟨y, r, rfl, h1, h2⟩ := h.ci
    exact h2
  | c :: ds, xs, n + 1, h => by
    obtain ⟨y, r, rfl, h1, h2⟩ := h.ci
    exact .c h1 (Rs.er n h2)
mutual
theorem R.sm (s : Same H H') : ∀ (d : Dt) (v : V), R K A H d v → R K A H' d v
  | .non, v, h => by simpa only [R] using h
  | .bl _, v, h => by simpa only [R] using h
  | .int _, v, h => by simpa only [R] using h
  | .str _, v, h => by simpa only [R] using h
  | .lst ds, v, h => by
    obtain ⟨a, xs, rfl, n, e, q⟩ := h.li
    exact .l n (s _ _ e) (Rs.sm s ds xs q)
  | .tup ds, v, h => by
    obtain ⟨a, xs, rfl, e, q⟩ := h.ti
    exact .t (s _ _ e) (Rs.sm s ds xs q)
  | .obj C ks ds, v, h => by
    obtain ⟨a, dx, xs, rfl, e, q⟩ := h.oi
    exact .o (s _ _ e) (Rs.sm s ds xs q)
  | .raw _, v, h => by simpa only [R] using h
  | .rg _ _, v, h => by
    obtain ⟨a, rfl, e⟩ := h.gi
    exact .gg (s _ _ e)
  | .slot _, v, h => by simpa only [R] using h
  | .fre _, v, h => by simpa only [R] using h
theorem Rs.sm (s : Same H H') : ∀ (ds : List Dt) (xs : List V), Rs K A H ds xs → Rs K A H' ds xs
  | [], xs, h => by simpa only [Rs] using h
  | d :: ds, xs, h => by
    obtain ⟨x, r, rfl, h1, h2⟩ := h.ci
    exact .c (R.sm s d x h1) (Rs.sm s ds r h2)
end
/-- all but the lists at A is kept -/
def Mv (A : List Addr) (H H' : Hp) : Prop := (∀ b o, b ∉ A → H b = some o → H' b = some o) ∧ ∀ b ∈ A, ∃ xs, H b = some (.lst xs)
/-- A' is A and new places -/
def Nw (A A' : List Addr) (H : Hp) : Prop := ∀ b ∈ A', b ∈ A ∨ H b = none
theorem Nw.rf : Nw A A H := fun b h => .inl h
theorem Nw.tl {a : Addr} : Nw (a :: A) A H := fun b h => .inl (List.mem_cons_of_mem _ h)
theorem Nw.cons {a : Addr} (h : H a = none) : Nw A (a :: A) H := fun b hb => by
  rcases List.mem_cons.mp hb with e | e
  · rw [e]
    exact .inr h
  · exact .inl e
theorem Mv.t {a : Addr} {xs : List V} (m : Mv A H H') (h : H a = some (.tup xs)) : H' a = some (.tup xs) := by
  refine m.1 _ _ (fun z => ?_) h
  obtain ⟨ys, e⟩ := m.2 a z
  rw [e] at h
  cases h
theorem Mv.g {a : Addr} {lo hi : Int} (m : Mv A H H') (h : H a = some (.rng lo hi)) : H' a = some (.rng lo hi) := by
  refine m.1 _ _ (fun z => ?_) h
  obtain ⟨ys, e⟩ := m.2 a z
  rw [e] at h
  cases h
theorem Mv.o {a C dx : Addr} {fs : List (Str × V)} (m : Mv A H H') (h : H a = some (.ins C dx fs)) : H' a = some (.ins C dx fs) := by
  refine m.1 _ _ (fun z => ?_) h
  obtain ⟨ys, e⟩ := m.2 a z
  rw [e] at h
  cases h
mutual
theorem R.mv2 (m : Mv A H H') (u : Nw A A' H) : ∀ (d : Dt) (v : V), R K A H d v → R K A' H' d v
  | .non, v, h => by simpa only [R] using h
  | .bl _, v, h => by simpa only [R] using h
  | .int _, v, h => by simpa only [R] using h
  | .str _, v, h => by simpa only [R] using h
  | .lst ds, v, h => by
    obtain ⟨a, xs, rfl, n, e, q⟩ := h.li
    refine .l (fun z => ?_) (m.1 _ _ n e) (Rs.mv2 m u ds xs q)
    rcases u a z with z | z
    · exact n z
    · rw [z] at e
      cases e
  | .tup ds, v, h => by
    obtain ⟨a, xs, rfl, e, q⟩ := h.ti
    exact .t (m.t e) (Rs.mv2 m u ds xs q)
  | .obj C ks ds, v, h => by
    obtain ⟨a, dx, xs, rfl, e, q⟩ := h.oi
    exact .o (m.o e) (Rs.mv2 m u ds xs q)
  | .raw _, v, h => by simpa only [R] using h
  | .rg _ _, v, h => by
    obtain ⟨a, rfl, e⟩ := h.gi
    exact .gg (m.g e)
  | .slot _, v, h => by simpa only [R] using h
  | .fre _, v, h => by simpa only [R] using h
theorem Rs.mv2 (m : Mv A H H') (u : Nw A A' H) : ∀ (ds : List Dt) (xs : List V), Rs K A H ds xs → Rs K A' H' ds xs
  | [], xs, h => by simpa only [Rs] using h
  | d :: ds, xs, h => by
    obtain ⟨x, r, rfl, h1, h2⟩ := h.ci
    exact .c (R.mv2 m u d x h1) (Rs.mv2 m u ds r h2)
end
theorem R.mv (m : Mv A H H') (d : Dt) (v : V) (h : R K A H d v) : R K A H' d v := R.mv2 m .rf d v h
theorem Rs.mv (m : Mv A H H') (ds : List Dt) (xs : List V) (h : Rs K A H ds xs) : Rs K A H' ds xs := Rs.mv2 m .rf ds xs h
mutual
theorem R.up (u : Nw A A' H) : ∀ (d : Dt) (v : V), R K A H d v → R K A' H d v
  | .non, v, h => by simpa only [R] using h
  | .bl _, v, h => by simpa only [R] using h
  | .int _, v, h => by simpa only [R] using h
  | .str _, v, h => by simpa only [R] using h
  | .lst ds, v, h => by
    obtain ⟨a, xs, rfl, n, e, q⟩ := h.li
    refine .l (fun z => ?_) e (Rs.up u ds xs q)
    rcases u a z with z | z
    · exact n z
    · rw [z] at e
      cases e
  | .tup ds, v, h => by
    obtain ⟨a, xs, rfl, e, q⟩ := h.ti
    exact .t e (Rs.up u ds xs q)
  | .obj C ks ds, v, h => by
    obtain ⟨a, dx, xs, rfl, e, q⟩ := h.oi
    exact .o e (Rs.up u ds xs q)
  | .raw _, v, h => by simpa only [R] using h
  | .rg _ _, v, h => by simpa only [R] using h
  | .slot _, v, h => by simpa only [R] using h
  | .fre _, v, h => by simpa only [R] using h
theorem Rs.up (u : Nw A A' H) : ∀ (ds : List Dt) (xs : List V), Rs K A H ds xs → Rs K A' H ds xs
  | [], xs, h => by simpa only [Rs] using h
  | d :: ds, xs, h => by
    obtain ⟨x, r, rfl, h1, h2⟩ := h.ci
    exact .c (R.up u d x h1) (Rs.up u ds r h2)
end
end
/-! the bag: one list of ints that calls may change -/
structure Zc where
  p : Option Addr
  J : List Int → Prop
def Pk (Z : Zc) (H : Hp) : Prop := ∀ p, Z.p = some p → ∃ is : List Int, H p = some (.lst (is.map V.int)) ∧ Z.J is
structure Good (Z : Zc) (A : List Addr) (H : Hp) : Prop where
  pA : ∀ p, Z.p = some p → p ∈ A
  pk : Pk Z H
  lv : ∀ a ∈ A, ∃ xs, H a = some (.lst xs)
structure Ex (Z : Zc) (H H' : Hp) : Prop where
  kp : ∀ b o, Z.p ≠ some b → H b = some o → H' b = some o
  pk : Pk Z H'
section
variable {K : PySem.W.Frag} {Z : Zc} {A A' : List Addr} {H H1 H2 : Hp}
theorem Ex.rf (g : Pk Z H) : Ex Z H H := ⟨fun _ _ _ e => e, g⟩
theorem Ex.tr (a : Ex Z H H1) (b : Ex Z H1 H2) : Ex Z H H2 := ⟨fun c o n e => b.kp c o n (a.kp c o n e), b.pk⟩
theorem Ex.sm (g : Pk Z H) (s : Same H H1) : Ex Z H H1 := ⟨fun c o _ e => s c o e, fun p e => by
  obtain ⟨is, h, j⟩ := g p e
  exact ⟨is, s _ _ h, j⟩⟩
theorem Ex.lv (g : Pk Z H) (x : Ex Z H H1) {b : Addr} (h : H1 b = none) : H b = none := by
  cases e : H b with
  | none => rfl
  | some o =>
    by_cases n : Z.p = some b
    · obtain ⟨is, h2, _⟩ := x.pk b n
      rw [h] at h2
      cases h2
    · rw [x.kp b o n e] at h
      cases h
theorem Good.ex (g : Good Z A H) (x : Ex Z H H1) : Good Z A H1 := ⟨g.pA, x.pk, fun a ha => by
  by_cases n : Z.p = some a
  · obtain ⟨is, h, _⟩ := x.pk a n
    exact ⟨_, h⟩
  · obtain ⟨xs, h⟩ := g.lv a ha
    exact ⟨xs, x.kp _ _ n h⟩⟩
theorem Good.mv (g : Good Z A H) (x : Ex Z H H1) : Mv A H H1 := ⟨fun b o n e => x.kp b o (fun z => n (g.pA b z)) e, g.lv⟩
theorem Good.new (g : Good Z A H) {a : Addr} (h : H a = none) : a ∉ A := fun z => by
  obtain ⟨xs, e⟩ := g.lv a z
  rw [h] at e
  cases e
theorem Ex.new (g : Pk Z H) {p : Addr} {o : HO} (h : H p = none) : Ex Z H (upd H p o) := .sm g (same_new h)
end
/-! the names of a def -/
inductive Sl where
  | un | sh (d : Dt) | own (ds : List Dt)
structure Er (K : PySem.W.Frag) (A0 A : List Addr) (σ : L2.St) (H : Hp) (ρ : List Sl) : Prop where
  len : σ.length = ρ.length
  sh : ∀ (i : Nat) (d : Dt), ρ[i]? = some (.sh d) → ∃ v, σ[i]? = some (some v) ∧ R K A H d v
  ow : ∀ (i : Nat) (ds : List Dt), ρ[i]? = some (.own ds) → ∃ a xs, σ[i]? = some (some (.ref a)) ∧ a ∈ A ∧ a ∉ A0 ∧ H a = some (.lst xs) ∧ Rs K A H ds xs
  dis : ∀ (i j : Nat) (ds es : List Dt) (a : Addr), i ≠ j → ρ[i]? = some (.own ds) → ρ[j]? = some (.own es) → σ[i]? = some (some (.ref a)) → σ[j]? ≠ some (some (.ref a))
structure Sg (K : PySem.W.Frag) (Z : Zc) (A0 A : List Addr) (σ : L2.St) (H : Hp) (ρ : List Sl) : Prop where
  g : Good Z A H
  er : Er K A0 A σ H ρ
  p0 : ∀ p, Z.p = some p → p ∈ A0
  a0 : ∀ b ∈ A0, b ∈ A
section
variable {K : PySem.W.Frag} {Z : Zc} {A0 A A' : List Addr} {H H1 H2 : Hp} {σ : L2.St} {ρ : List Sl}
theorem Sg.ex (s : Sg K Z A0 A σ H ρ) (x : Ex Z H H1) : Sg K Z A0 A σ H1 ρ := by
  refine ⟨s.g.ex x, ⟨s.er.len, fun i d e => ?_, fun i ds e => ?_, s.er.dis⟩, s.p0, s.a0⟩
  · obtain ⟨v, h1, h2⟩ := s.er.sh i d e
    exact ⟨v, h1, R.mv (s.g.mv x) _ _ h2⟩
  · obtain ⟨a, xs, h1, h2, h3, h4, h5⟩ := s.er.ow i ds e
    exact ⟨a, xs, h1, h2, h3, x.kp _ _ (fun z => h3 (s.p0 a z)) h4, Rs.mv (s.g.mv x) _ _ h5⟩
/-- what an expression is worth: H0 the heap ahead of it -/
def Rv (K : PySem.W.Frag) (A : List Addr) (σ : L2.St) (ρ : List Sl) (H0 H : Hp) : Dt → V → Prop
  | .slot i, v => σ[i]? = some (some v) ∧ ∃ ds, ρ[i]? = some (.own ds)
  | .fre ds, v => ∃ a xs, v = .ref a ∧ H0 a = none ∧ H a = some (.lst xs) ∧ Rs K (a :: A) H ds xs
  | d, v => R K A H d v
def Rvs (K : PySem.W.Frag) (A : List Addr) (σ : L2.St) (ρ : List Sl) (H0 H : Hp) : List Dt → List V → Prop
  | [], xs => xs = []
  | d :: ds, xs => ∃ x r, xs = x :: r ∧ Rv K A σ ρ H0 H d x ∧ Rvs K A σ ρ H0 H ds r
theorem Rv.of {H0 : Hp} {d : Dt} {v : V} (h : R K A H d v) : Rv K A σ ρ H0 H d v := by
  cases d with
  | slot i => simp only [R] at h
  | fre ds => simp only [R] at h
  | _ => exact h
theorem Rv.ex (s : Sg K Z A0 A σ H ρ) (x0 : Ex Z H H1) (x : Ex Z H1 H2) : ∀ {d : Dt} {v : V}, Rv K A σ ρ H H1 d v → Rv K A σ ρ H H2 d v := by
  intro d v h
  have g1 := s.g.ex x0
  cases d with
  | slot i => exact h
  | fre ds =>
    obtain ⟨a, xs, rfl, h0, h1, h2⟩ := h
    have hz : Z.p ≠ some a := fun z => by
      obtain ⟨ys, e⟩ := s.g.lv a (s.g.pA a z)
      rw [h0] at e
      cases e
    refine ⟨a, xs, rfl, h0, x.kp _ _ hz h1, Rs.mv ⟨fun b o n e => (g1.mv x).1 b o (fun z => n (List.mem_cons_of_mem _ z)) e, fun b hb => ?_⟩ _ _ h2⟩
    rcases List.mem_cons.mp hb with e | e
    · rw [e]
      exact ⟨xs, h1⟩
    · exact g1.lv b e
  | _ => exact R.mv (g1.mv x) _ _ h
theorem Rv.pre (g : Pk Z H) (x : Ex Z H H1) : ∀ {d : Dt} {v : V}, Rv K A σ ρ H1 H2 d v → Rv K A σ ρ H H2 d v := by
  intro d v h
  cases d with
  | slot i => exact h
  | fre ds =>
    obtain ⟨a, xs, rfl, h0, h1, h2⟩ := h
    exact ⟨a, xs, rfl, x.lv g h0, h1, h2⟩
  | _ => exact h
theorem Rvs.ex (s : Sg K Z A0 A σ H ρ) (x0 : Ex Z H H1) (x : Ex Z H1 H2) : ∀ {ds : List Dt} {vs : List V}, Rvs K A σ ρ H H1 ds vs → Rvs K A σ ρ H H2 ds vs
  | [], vs, h => h
  | d :: ds, vs, h => by
    obtain ⟨y, r, e, h1, h2⟩ := h
    exact ⟨y, r, e, h1.ex s x0 x, Rvs.ex s x0 x h2⟩
theorem Rvs.pre (g : Pk Z H) (x : Ex Z H H1) : ∀ {ds : List Dt} {vs : List V}, Rvs K A σ ρ H1 H2 ds vs → Rvs K A σ ρ H H2 ds vs
  | [], vs, h => h
  | d :: ds, vs, h => by
    obtain ⟨y, r, e, h1, h2⟩ := h
    exact ⟨y, r, e, h1.pre g x, Rvs.pre g x h2⟩
/-- the items of a list that a name may own -/
def asL (ρ : List Sl) : Dt → Option (List Dt)
  | .lst ds => some ds
  | .fre ds => some ds
  | .slot i => match ρ[i]? with
    | some (.own ds) => some ds
    | _ => none
  | _ => none
theorem asL_R (s : Sg K Z A0 A σ H1 ρ) {H0 : Hp} {d : Dt} {v : V} {ds : List Dt} (h : Rv K A σ ρ H0 H1 d v) (e : asL ρ d = some ds) : ∃ a xs, v = .ref a ∧ H1 a = some (.lst xs) ∧ Rs K A H1 ds xs := by
  cases d with
  | lst es =>
    cases e
    obtain ⟨a, xs, rfl, _, h1, h2⟩ := R.li h
    exact ⟨a, xs, rfl, h1, h2⟩
  | fre es =>
    cases e
    obtain ⟨a, xs, rfl, _, h1, h2⟩ := h
    exact ⟨a, xs, rfl, h1, Rs.up .tl _ _ h2⟩
  | slot i =>
    obtain ⟨h1, es, h2⟩ := h
    have e' : es = ds := by
      simp only [asL, h2] at e
      exact Option.some.inj e
    subst e'
    obtain ⟨a, xs, q1, _, _, q2, q3⟩ := s.er.ow i es h2
    rw [h1] at q1
    cases q1
    exact ⟨a, xs, rfl, q2, q3⟩
  | _ => cases e
/-- what may be kept elsewhere -/
def cl : Dt → Option Dt
  | .slot _ => none
  | .fre ds => some (.lst ds)
  | d => some d
theorem cl_R (g : Good Z A H) {d d' : Dt} {v : V} (h : Rv K A σ ρ H H1 d v) (e : cl d = some d') : R K A H1 d' v := by
  cases d with
  | slot i => cases e
  | fre ds =>
    cases e
    obtain ⟨a, xs, rfl, h0, h1, h2⟩ := h
    exact .l (g.new h0) h1 (Rs.up .tl _ _ h2)
  | _ =>
    cases e
    exact h
def cls : List Dt → Option (List Dt)
  | [] => some []
  | d :: ds => match cl d, cls ds with
    | some e, some es => some (e :: es)
    | _, _ => none
theorem cls_R (g : Good Z A H) : ∀ {ds es : List Dt} {vs : List V}, Rvs K A σ ρ H H1 ds vs → cls ds = some es → Rs K A H1 es vs
  | [], es, vs, h, e => by
    cases e
    rw [show vs = [] from h]
    exact .n
  | d :: ds, es, vs, h, e => by
    obtain ⟨x, r, rfl, h1, h2⟩ := h
    unfold cls at e
    cases e1 : cl d with
    | none => rw [e1] at e; cases e
    | some d' =>
      cases e2 : cls ds with
      | none => rw [e1, e2] at e; cases e
      | some es' =>
        rw [e1, e2] at e
        cases e
        exact .c (cl_R g h1 e1) (cls_R g h2 e2)
end
section
variable {K : PySem.W.Frag} {A : List Addr} {H0 H : Hp} {σ : L2.St} {ρ : List Sl} {v : V}
theorem Rv.bi {b : Bool} (h : Rv K A σ ρ H0 H (.bl b) v) : v = .bl b := R.bi (K := K) (A := A) (H := H) h
theorem Rv.ii {i : Int} (h : Rv K A σ ρ H0 H (.int i) v) : v = .int i := R.ii (K := K) (A := A) (H := H) h
theorem Rv.si {x : Str} (h : Rv K A σ ρ H0 H (.str x) v) : v = .str x := R.si (K := K) (A := A) (H := H) h
theorem Rv.nin (h : Rv K A σ ρ H0 H .non v) : v = .non := R.nin (K := K) (A := A) (H := H) h
theorem Rv.wi {u : V} (h : Rv K A σ ρ H0 H (.raw u) v) : v = u := R.wi (K := K) (A := A) (H := H) h
theorem Rv.ti {ds : List Dt} (h : Rv K A σ ρ H0 H (.tup ds) v) : R K A H (.tup ds) v := h
theorem Rv.lri {ds : List Dt} (h : Rv K A σ ρ H0 H (.lst ds) v) : R K A H (.lst ds) v := h
theorem Rv.oi {C : Addr} {ks : List Str} {ds : List Dt} (h : Rv K A σ ρ H0 H (.obj C ks ds) v) : R K A H (.obj C ks ds) v := h
end
/-! readings without a heap -/
abbrev PE' := List Sl → (Dt → Prop) → Prop
abbrev PA' := List Sl → (List Dt → Prop) → Prop
abbrev PT' := List Sl → (Bool → Prop) → Prop
abbrev P2' := List Sl → Dt → Dt → (Dt → Prop) → Prop
abbrev P1' := List Sl → Dt → (Dt → Prop) → Prop
abbrev PL' := List Sl → List Dt → (Dt → Prop) → Prop
structure SimE (K : PySem.W.Frag) (Z : Zc) (t : TE) (T : PE') : Prop where
  run : ∀ (A0 A : List Addr) (σ : L2.St) (ρ : List Sl) (H : Hp) (G : VK) (Q : Dt → Prop), Sg K Z A0 A σ H ρ → T ρ Q → (∀ d v H', Ex Z H H' → Rv K A σ ρ H H' d v → Q d → G v H') → t σ H G
structure SimA (K : PySem.W.Frag) (Z : Zc) (t : TA) (T : PA') : Prop where
  run : ∀ (A0 A : List Addr) (σ : L2.St) (ρ : List Sl) (H : Hp) (G : List V → Hp → Prop) (Q : List Dt → Prop), Sg K Z A0 A σ H ρ → T ρ Q → (∀ ds vs H', Ex Z H H' → Rvs K A σ ρ H H' ds vs → Q ds → G vs H') → t σ H G
structure SimT (K : PySem.W.Frag) (Z : Zc) (t : TT) (T : PT') : Prop where
  run : ∀ (A0 A : List Addr) (σ : L2.St) (ρ : List Sl) (H : Hp) (G : Bool → Hp → Prop) (Q : Bool → Prop), Sg K Z A0 A σ H ρ → T ρ Q → (∀ b H', Ex Z H H' → Q b → G b H') → t σ H G
structure Sim2 (K : PySem.W.Frag) (Z : Zc) (r : R2) (p : P2') : Prop where
  run : ∀ (A0 A : List Addr) (σ : L2.St) (ρ : List Sl) (H0 H : Hp) (x y : V) (dx dy : Dt) (G : VK) (Q : Dt → Prop), Sg K Z A0 A σ H0 ρ → Sg K Z A0 A σ H ρ → Rv K A σ ρ H0 H dx x → Rv K A σ ρ H0 H dy y → p ρ dx dy Q →
    (∀ d v H', Ex Z H H' → Rv K A σ ρ H H' d v → Q d → G v H') → r x y H G
structure Sim1 (K : PySem.W.Frag) (Z : Zc) (r : V → Hp → VK → Prop) (p : P1') : Prop where
  run : ∀ (A0 A : List Addr) (σ : L2.St) (ρ : List Sl) (H0 H : Hp) (x : V) (dx : Dt) (G : VK) (Q : Dt → Prop), Sg K Z A0 A σ H0 ρ → Sg K Z A0 A σ H ρ → Rv K A σ ρ H0 H dx x → p ρ dx Q →
    (∀ d v H', Ex Z H H' → Rv K A σ ρ H H' d v → Q d → G v H') → r x H G
structure SimL (K : PySem.W.Frag) (Z : Zc) (r : List V → Hp → VK → Prop) (p : PL') : Prop where
  run : ∀ (A0 A : List Addr) (σ : L2.St) (ρ : List Sl) (H0 H : Hp) (xs : List V) (ds : List Dt) (G : VK) (Q : Dt → Prop), Sg K Z A0 A σ H0 ρ → Sg K Z A0 A σ H ρ → Rvs K A σ ρ H0 H ds xs → p ρ ds Q →
    (∀ d v H', Ex Z H H' → Rv K A σ ρ H H' d v → Q d → G v H') → r xs H G
def pV (i : Nat) : PE' := fun ρ Q => match ρ[i]? with
  | some (.sh d) => Q d
  | some (.own _) => Q (.slot i)
  | _ => False
def pC (d : Dt) : PE' := fun _ Q => Q d
def pOp (p : P2') (Ta Tb : PE') : PE' := fun ρ Q => Ta ρ fun x => Tb ρ fun y => p ρ x y Q
def pUn (p : P1') (Ta : PE') : PE' := fun ρ Q => Ta ρ fun x => p ρ x Q
def pCB (p : PL') (T : PA') : PE' := fun ρ Q => T ρ fun xs => p ρ xs Q
def pNil : PA' := fun _ Q => Q []
def pCons (T : PE') (U : PA') : PA' := fun ρ Q => T ρ fun x => U ρ fun xs => Q (x :: xs)
def bD (Q : Bool → Prop) : Dt → Prop
  | .bl b => Q b
  | _ => False
def pTest (T : PE') : PT' := fun ρ Q => T ρ (bD Q)
def pAnd (t u : PT') : PT' := fun ρ Q => t ρ fun c => if c = true then u ρ Q else Q false
def pOr (t u : PT') : PT' := fun ρ Q => t ρ fun c => if c = true then Q true else u ρ Q
def pNot (t : PT') : PT' := fun ρ Q => t ρ fun c => Q (!c)
def pAndV (t u : PE') : PE' := fun ρ Q => t ρ (bD fun c => if c = true then u ρ Q else Q (.bl false))
def pOrV (t u : PE') : PE' := fun ρ Q => t ρ (bD fun c => if c = true then Q (.bl true) else u ρ Q)
def pNotV (t : PE') : PE' := fun ρ Q => t ρ (bD fun c => Q (.bl (!c)))
def pIf (c : PT') (t u : PE') : PE' := fun ρ Q => c ρ fun b => if b = true then t ρ Q else u ρ Q
def oD {α : Type} (o : Option α) (Q : α → Prop) : Prop := match o with
  | some a => Q a
  | none => False
def pTup (T : PA') : PE' := fun ρ Q => T ρ fun ds => oD (cls ds) fun es => es.length ≤ sizeLine ∧ Q (.tup es)
def pLst (T : PA') : PE' := fun ρ Q => T ρ fun ds => oD (cls ds) fun es => es.length ≤ sizeLine ∧ Q (.fre es)
section
variable {K : PySem.W.Frag} {Z : Zc} {t u : TE} {T U : PE'} {ta : TA} {Ta : PA'} {tt tu : TT} {Tt Tu : PT'} {i : Nat}
theorem oD_of {α : Type} {o : Option α} {Q : α → Prop} (h : oD o Q) : ∃ a, o = some a ∧ Q a := by
  cases o with
  | none => exact False.elim h
  | some a => exact ⟨a, rfl, h⟩
theorem bD_of {Q : Bool → Prop} {d : Dt} (h : bD Q d) : ∃ b, d = .bl b ∧ Q b := by
  cases d with
  | bl b => exact ⟨b, rfl, h⟩
  | _ => exact False.elim h
theorem s_var : SimE K Z (tVar i) (pV i) := ⟨fun A0 A σ ρ H G Q s h k => by
  unfold pV at h
  split at h
  · rename_i d e
    obtain ⟨v, h1, h2⟩ := s.er.sh i d e
    exact ⟨v, h1, k d v H (.rf s.g.pk) (.of h2) h⟩
  · rename_i ds e
    obtain ⟨a, xs, h1, _⟩ := s.er.ow i ds e
    exact ⟨_, h1, k (.slot i) _ H (.rf s.g.pk) ⟨h1, ds, e⟩ h⟩
  · exact False.elim h⟩
theorem s_c {v : V} {d : Dt} (hv : ∀ A H, R K A H d v) : SimE K Z (tC v) (pC d) := ⟨fun A0 A σ ρ H G Q s h k => k d v H (.rf s.g.pk) (.of (hv _ _)) h⟩
theorem s_int {n : Int} : SimE K Z (tC (.int n)) (pC (.int n)) := s_c fun _ _ => .i n
theorem s_str {x : Str} : SimE K Z (tC (.str x)) (pC (.str x)) := s_c fun _ _ => .s x
theorem s_bl {b : Bool} : SimE K Z (tC (.bl b)) (pC (.bl b)) := s_c fun _ _ => .b b
theorem s_non : SimE K Z (tC .non) (pC .non) := s_c fun _ _ => .n
theorem s_ty {n : String} : SimE K Z (tC (.ty n)) (pC (.raw (.ty n))) := s_c fun _ _ => .w _
theorem s_ref {a : Addr} : SimE K Z (tC (.ref a)) (pC (.raw (.ref a))) := s_c fun _ _ => .w _
theorem s_op {r : R2} {p : P2'} (hr : Sim2 K Z r p) (h1 : SimE K Z t T) (h2 : SimE K Z u U) : SimE K Z (tOp r t u) (pOp p T U) := ⟨fun A0 A σ ρ H G Q s h k => by
  refine h1.run A0 A σ ρ H _ _ s h fun d v H1 x1 r1 q1 => ?_
  have s1 := s.ex x1
  refine h2.run A0 A σ ρ H1 _ _ s1 q1 fun e w H2 x2 r2 q2 => ?_
  exact hr.run A0 A σ ρ H H2 v w d e G Q s (s1.ex x2) (r1.ex s x1 x2) (r2.pre s.g.pk x1) q2 fun f z H3 x3 r3 q3 => k f z H3 (x1.tr (x2.tr x3)) (r3.pre s.g.pk (x1.tr x2)) q3⟩
theorem s_un {r : V → Hp → VK → Prop} {p : P1'} (hr : Sim1 K Z r p) (h1 : SimE K Z t T) : SimE K Z (tUn r t) (pUn p T) := ⟨fun A0 A σ ρ H G Q s h k => by
  refine h1.run A0 A σ ρ H _ _ s h fun d v H1 x1 r1 q1 => ?_
  exact hr.run A0 A σ ρ H H1 v d G Q s (s.ex x1) r1 q1 fun f z H3 x3 r3 q3 => k f z H3 (x1.tr x3) (r3.pre s.g.pk x1) q3⟩
theorem s_cb {r : List V → Hp → VK → Prop} {p : PL'} (hr : SimL K Z r p) (h1 : SimA K Z ta Ta) : SimE K Z (tCB r ta) (pCB p Ta) := ⟨fun A0 A σ ρ H G Q s h k => by
  refine h1.run A0 A σ ρ H _ _ s h fun d v H1 x1 r1 q1 => ?_
  exact hr.run A0 A σ ρ H H1 v d G Q s (s.ex x1) r1 q1 fun f z H3 x3 r3 q3 => k f z H3 (x1.tr x3) (r3.pre s.g.pk x1) q3⟩
theorem s_nil : SimA K Z tNil pNil := ⟨fun A0 A σ ρ H G Q s h k => k [] [] H (.rf s.g.pk) rfl h⟩
theorem s_cons (h1 : SimE K Z t T) (h2 : SimA K Z ta Ta) : SimA K Z (tCons t ta) (pCons T Ta) := ⟨fun A0 A σ ρ H G Q s h k => by
  refine h1.run A0 A σ ρ H _ _ s h fun d v H1 x1 r1 q1 => ?_
  refine h2.run A0 A σ ρ H1 _ _ (s.ex x1) q1 fun e w H2 x2 r2 q2 => ?_
  exact k (d :: e) (v :: w) H2 (x1.tr x2) ⟨v, w, rfl, r1.ex s x1 x2, r2.pre s.g.pk x1⟩ q2⟩
theorem s_test (h1 : SimE K Z t T) : SimT K Z (tTest t) (pTest T) := ⟨fun A0 A σ ρ H G Q s h k => h1.run A0 A σ ρ H _ _ s h fun d v H1 x1 r1 q1 => by
  obtain ⟨b, rfl, q⟩ := bD_of q1
  exact ⟨b, r1.bi, k b H1 x1 q⟩⟩
theorem s_tB (h1 : SimE K Z t T) : SimT K Z (tB t) (pTest T) := ⟨fun A0 A σ ρ H G Q s h k => h1.run A0 A σ ρ H _ _ s h fun d v H1 x1 r1 q1 => by
  obtain ⟨b, rfl, q⟩ := bD_of q1
  exact ⟨b, r1.bi, k b H1 x1 q⟩⟩
theorem s_and (h1 : SimT K Z tt Tt) (h2 : SimT K Z tu Tu) : SimT K Z (tAnd tt tu) (pAnd Tt Tu) := ⟨fun A0 A σ ρ H G Q s h k => h1.run A0 A σ ρ H _ _ s h fun c H1 x1 q => by
  cases c with
  | true => exact h2.run A0 A σ ρ H1 _ _ (s.ex x1) q fun b H2 x2 q2 => k b H2 (x1.tr x2) q2
  | false => exact k _ _ x1 q⟩
theorem s_or (h1 : SimT K Z tt Tt) (h2 : SimT K Z tu Tu) : SimT K Z (tOr tt tu) (pOr Tt Tu) := ⟨fun A0 A σ ρ H G Q s h k => h1.run A0 A σ ρ H _ _ s h fun c H1 x1 q => by
  cases c with
  | false => exact h2.run A0 A σ ρ H1 _ _ (s.ex x1) q fun b H2 x2 q2 => k b H2 (x1.tr x2) q2
  | true => exact k _ _ x1 q⟩
theorem s_not (h1 : SimT K Z tt Tt) : SimT K Z (tNot tt) (pNot Tt) := ⟨fun A0 A σ ρ H G Q s h k => h1.run A0 A σ ρ H _ _ s h fun c H1 x1 q => k _ _ x1 q⟩
theorem s_andV (h1 : SimE K Z t T) (h2 : SimE K Z u U) : SimE K Z (tAndV t u) (pAndV T U) := ⟨fun A0 A σ ρ H G Q s h k => h1.run A0 A σ ρ H _ _ s h fun d v H1 x1 r1 q1 => by
  obtain ⟨b, rfl, q⟩ := bD_of q1
  refine ⟨b, r1.bi, ?_⟩
  cases b with
  | true => exact h2.run A0 A σ ρ H1 _ _ (s.ex x1) q fun e w H2 x2 r2 q2 => k e w H2 (x1.tr x2) (r2.pre s.g.pk x1) q2
  | false => exact k _ _ _ x1 (.of (.b false)) q⟩
theorem s_orV (h1 : SimE K Z t T) (h2 : SimE K Z u U) : SimE K Z (tOrV t u) (pOrV T U) := ⟨fun A0 A σ ρ H G Q s h k => h1.run A0 A σ ρ H _ _ s h fun d v H1 x1 r1 q1 => by
  obtain ⟨b, rfl, q⟩ := bD_of q1
  refine ⟨b, r1.bi, ?_⟩
  cases b with
  | false => exact h2.run A0 A σ ρ H1 _ _ (s.ex x1) q fun e w H2 x2 r2 q2 => k e w H2 (x1.tr x2) (r2.pre s.g.pk x1) q2
  | true => exact k _ _ _ x1 (.of (.b true)) q⟩
theorem s_notV (h1 : SimE K Z t T) : SimE K Z (tNotV t) (pNotV T) := ⟨fun A0 A σ ρ H G Q s h k => h1.run A0 A σ ρ H _ _ s h fun d v H1 x1 r1 q1 => by
  obtain ⟨b, rfl, q⟩ := bD_of q1
  exact ⟨b, r1.bi, k _ _ _ x1 (.of (.b _)) q⟩⟩
theorem s_if (hc : SimT K Z tt Tt) (h1 : SimE K Z t T) (h2 : SimE K Z u U) : SimE K Z (tIf tt t u) (pIf Tt T U) := ⟨fun A0 A σ ρ H G Q s h k => hc.run A0 A σ ρ H _ _ s h fun c H1 x1 q => by
  cases c with
  | true => exact h1.run A0 A σ ρ H1 _ _ (s.ex x1) q fun e w H2 x2 r2 q2 => k e w H2 (x1.tr x2) (r2.pre s.g.pk x1) q2
  | false => exact h2.run A0 A σ ρ H1 _ _ (s.ex x1) q fun e w H2 x2 r2 q2 => k e w H2 (x1.tr x2) (r2.pre s.g.pk x1) q2⟩
theorem s_tup (h1 : SimA K Z ta Ta) : SimE K Z (tTup ta) (pTup Ta) := ⟨fun A0 A σ ρ H G Q s h k => h1.run A0 A σ ρ H _ _ s h fun ds vs H1 x1 r1 q1 => by
  obtain ⟨es, e, hl, q⟩ := oD_of q1
  have r := cls_R s.g r1 e
  refine ⟨by rw [r.len]; exact hl, fun p hp => ?_⟩
  have xn := Ex.new (o := .tup vs) (s.g.ex x1).pk hp
  exact k _ _ _ (x1.tr xn) (.of (.t upd_same (Rs.mv ((s.g.ex x1).mv xn) _ _ r))) q⟩
theorem s_lst (h1 : SimA K Z ta Ta) : SimE K Z (tLst ta) (pLst Ta) := ⟨fun A0 A σ ρ H G Q s h k => h1.run A0 A σ ρ H _ _ s h fun ds vs H1 x1 r1 q1 => by
  obtain ⟨es, e, hl, q⟩ := oD_of q1
  have r := cls_R s.g r1 e
  refine ⟨by rw [r.len]; exact hl, fun p hp => ?_⟩
  have xn := Ex.new (o := .lst vs) (s.g.ex x1).pk hp
  exact k (.fre es) _ _ (x1.tr xn) ⟨p, vs, rfl, x1.lv s.g.pk hp, upd_same, Rs.mv2 ((s.g.ex x1).mv xn) (.cons hp) _ _ r⟩ q⟩
theorem s_imp {T' : PE'} (h : SimE K Z t T) (i : ∀ ρ Q, T' ρ Q → T ρ Q) : SimE K Z t T' := ⟨fun A0 A σ ρ H G Q s q k => h.run A0 A σ ρ H G Q s (i _ _ q) k⟩
end
end Pv

set_option maxRecDepth 100000
set_option maxHeartbeats 4000000
namespace Pv
open PySem PySem.Spec PyProof.Rows L2 Xv
/-! ### targets -/
abbrev PG' := Dt → List Sl → (List Sl → Prop) → Prop
/-- js: the slots that may be stored -/
structure SimG (K : PySem.W.Frag) (js : List Nat) (g : TG) (p : PG') : Prop where
  run : ∀ (Z : Zc) (A0 A : List Addr) (σ : L2.St) (ρ : List Sl) (H : Hp) (d : Dt) (x : V) (N : L2.St → Hp → Prop) (M : List Sl → Prop), Sg K Z A0 A σ H ρ → R K A H d x → p d ρ M →
    (∀ σ' ρ', Sg K Z A0 A σ' H ρ' → (σ'.length = σ.length ∧ ∀ i, i ∉ js → σ'[i]? = σ[i]?) → M ρ' → N σ' H) → g x σ H N
structure SimGs (K : PySem.W.Frag) (js : List Nat) (g : TGs) (p : List Dt → List Sl → (List Sl → Prop) → Prop) : Prop where
  run : ∀ (Z : Zc) (A0 A : List Addr) (σ : L2.St) (ρ : List Sl) (H : Hp) (ds : List Dt) (xs : List V) (N : L2.St → Hp → Prop) (M : List Sl → Prop), Sg K Z A0 A σ H ρ → Rs K A H ds xs → p ds ρ M →
    (∀ σ' ρ', Sg K Z A0 A σ' H ρ' → (σ'.length = σ.length ∧ ∀ i, i ∉ js → σ'[i]? = σ[i]?) → M ρ' → N σ' H) → g xs σ H N
section
variable {K : PySem.W.Frag} {Z : Zc} {A0 A A' : List Addr} {H H1 H2 : Hp} {σ : L2.St} {ρ : List Sl}
/-- a slot takes something new that is not owned -/
theorem Er.put (s : Er K A0 A σ H ρ) {i : Nat} {d : Dt} {v : V} (h : R K A H d v) : Er K A0 A (σ.set i (some v)) H (ρ.set i (.sh d)) := by
  refine ⟨by rw [List.length_set, List.length_set, s.len], fun j e q => ?_, fun j es q => ?_, fun j l es fs a n q1 q2 q3 => ?_⟩
  · by_cases hj : i = j
    · subst hj
      have hl : i < ρ.length := by
        have := (List.getElem?_eq_some_iff.mp q).1
        simpa using this
      rw [List.getElem?_set_self hl] at q
      cases q
      exact ⟨v, by rw [List.getElem?_set_self (by rw [s.len]; exact hl)], h⟩
    · rw [List.getElem?_set_ne hj] at q ⊢
      exact s.sh j e q
  · by_cases hj : i = j
    · subst hj
      have hl : i < ρ.length := by
        have := (List.getElem?_eq_some_iff.mp q).1
        simpa using this
      rw [List.getElem?_set_self hl] at q
      cases q
    · rw [List.getElem?_set_ne hj] at q ⊢
      exact s.ow j es q
  · by_cases hj : i = j
    · subst hj
      have hl : i < ρ.length := by
        have := (List.getElem?_eq_some_iff.mp q1).1
        simpa using this
      rw [List.getElem?_set_self hl] at q1
      cases q1
    · by_cases hl : i = l
      · subst hl
        have hl : i < ρ.length := by
          have := (List.getElem?_eq_some_iff.mp q2).1
          simpa using this
        rw [List.getElem?_set_self hl] at q2
        cases q2
      · rw [List.getElem?_set_ne hj] at q1 q3
        rw [List.getElem?_set_ne hl] at q2 ⊢
        exact s.dis j l es fs a n q1 q2 q3
theorem Er.un (s : Er K A0 A σ H ρ) {i : Nat} {x : Option V} : Er K A0 A (σ.set i x) H (ρ.set i .un) := by
  refine ⟨by rw [List.length_set, List.length_set, s.len], fun j e q => ?_, fun j es q => ?_, fun j l es fs a n q1 q2 q3 => ?_⟩
  · by_cases hj : i = j
    · subst hj
      have hl : i < ρ.length := by
        have := (List.getElem?_eq_some_iff.mp q).1
        simpa using this
      rw [List.getElem?_set_self hl] at q
      cases q
    · rw [List.getElem?_set_ne hj] at q ⊢
      exact s.sh j e q
  · by_cases hj : i = j
    · subst hj
      have hl : i < ρ.length := by
        have := (List.getElem?_eq_some_iff.mp q).1
        simpa using this
      rw [List.getElem?_set_self hl] at q
      cases q
    · rw [List.getElem?_set_ne hj] at q ⊢
      exact s.ow j es q
  · by_cases hj : i = j
    · subst hj
      have hl : i < ρ.length := by
        have := (List.getElem?_eq_some_iff.mp q1).1
        simpa using this
      rw [List.getElem?_set_self hl] at q1
      cases q1
    · by_cases hl : i = l
      · subst hl
        have hl : i < ρ.length := by
          have := (List.getElem?_eq_some_iff.mp q2).1
          simpa using this
        rw [List.getElem?_set_self hl] at q2
        cases q2
      · rw [List.getElem?_set_ne hj] at q1 q3
        rw [List.getElem?_set_ne hl] at q2 ⊢
        exact s.dis j l es fs a n q1 q2 q3
theorem Sg.put (s : Sg K Z A0 A σ H ρ) {i : Nat} {d : Dt} {v : V} (h : R K A H d v) : Sg K Z A0 A (σ.set i (some v)) H (ρ.set i (.sh d)) := ⟨s.g, s.er.put h, s.p0, s.a0⟩
end
def pgName (i : Nat) : PG' := fun d ρ M => M (ρ.set i (.sh d))
def pgNil : List Dt → List Sl → (List Sl → Prop) → Prop
  | [], ρ, M => M ρ
  | _, _, _ => False
def pgCons (p : PG') (q : List Dt → List Sl → (List Sl → Prop) → Prop) : List Dt → List Sl → (List Sl → Prop) → Prop
  | d :: ds, ρ, M => p d ρ fun ρ1 => q ds ρ1 M
  | _, _, _ => False
def pgTup (n : Nat) (q : List Dt → List Sl → (List Sl → Prop) → Prop) : PG'
  | .tup ds, ρ, M => ds.length = n ∧ q ds ρ M
  | _, _, _ => False
section
variable {K : PySem.W.Frag} {g : TG} {gs : TGs} {p : PG'} {q : List Dt → List Sl → (List Sl → Prop) → Prop} {js ks : List Nat}
theorem s_gName {i : Nat} : SimG K [i] (gName i) (pgName i) := ⟨fun Z A0 A σ ρ H d x N M s r h k => k _ _ (s.put r) ⟨List.length_set .., fun j hj => List.getElem?_set_ne (fun e => hj (by rw [e]; exact List.mem_singleton.mpr rfl))⟩ h⟩
theorem s_gNil : SimGs K [] gNil pgNil := ⟨fun Z A0 A σ ρ H ds xs N M s r h k => by
  cases ds with
  | nil => exact ⟨r.ni, k _ _ s ⟨rfl, fun _ _ => rfl⟩ h⟩
  | cons d ds => exact False.elim h⟩
theorem s_gCons (h1 : SimG K js g p) (h2 : SimGs K ks gs q) : SimGs K (js ++ ks) (gCons g gs) (pgCons p q) := ⟨fun Z A0 A σ ρ H ds xs N M s r h k => by
  cases ds with
  | nil => exact False.elim h
  | cons d ds =>
    obtain ⟨x, rr, rfl, r1, r2⟩ := r.ci
    refine ⟨x, rr, rfl, h1.run Z A0 A σ ρ H d x _ _ s r1 h fun σ' ρ' s' o1 h' => h2.run Z A0 A σ' ρ' H ds rr _ _ s' r2 h' fun σ2 ρ2 s2 o2 h2 => k _ _ s2 ⟨by rw [o2.1, o1.1], fun i hi => ?_⟩ h2⟩
    rw [o2.2 i (fun z => hi (List.mem_append_right _ z)), o1.2 i (fun z => hi (List.mem_append_left _ z))]⟩
theorem s_gTup {n : Nat} (h : SimGs K js gs q) : SimG K js (gTup K n gs) (pgTup n q) := ⟨fun Z A0 A σ ρ H d x N M s r h1 k => by
  cases d with
  | tup ds =>
    obtain ⟨a, xs, rfl, e, r2⟩ := r.ti
    exact ⟨a, xs, rfl, .inl (.inl e), by rw [r2.len]; exact h1.1, h.run Z A0 A σ ρ H ds xs _ _ s r2 h1.2 k⟩
  | _ => exact False.elim h1⟩
end
/-! ### iteration -/
/-- the items that J yields from the heap H1 on -/
def Ito (K : PySem.W.Frag) (A : List Addr) (J : It) (H1 : Hp) (ds : List Dt) : Prop :=
  ∀ A' H2, Mv A H1 H2 → Nw A A' H1 → ∀ i, (i = ds.length → J.stop i H2) ∧ ∀ d, ds[i]? = some d → J.go i H2 ∧ ∀ x H3, J.yld i H2 x H3 → Same H2 H3 ∧ R K A' H3 d x
structure SimI (K : PySem.W.Frag) (Z : Zc) (wi : TI) (T : List Sl → (List Dt → Prop) → Prop) : Prop where
  run : ∀ (A0 A : List Addr) (σ : L2.St) (ρ : List Sl) (H : Hp) (G : It → Hp → Prop) (Q : List Dt → Prop), Sg K Z A0 A σ H ρ → T ρ Q → (∀ J ds H1, Ex Z H H1 → Ito K A J H1 ds → Q ds → G J H1) → wi σ H G
def lD (Q : List Dt → Prop) : Dt → Prop
  | .lst ds => Q ds
  | .fre ds => Q ds
  | _ => False
def tD (Q : List Dt → Prop) : Dt → Prop
  | .tup ds => Q ds
  | _ => False
def sD (Q : Str → Prop) : Dt → Prop
  | .str x => Q x
  | _ => False
def sgn (c : Nat) : Dt := .str ⟨#[c]⟩
def piList (T : PE') : List Sl → (List Dt → Prop) → Prop := fun ρ Q => T ρ (lD Q)
def piTup (T : PE') : List Sl → (List Dt → Prop) → Prop := fun ρ Q => T ρ (tD Q)
def piStr (T : PE') : List Sl → (List Dt → Prop) → Prop := fun ρ Q => T ρ (sD fun x => Q (x.cps.toList.map sgn))
def rng (lo : Int) (n : Nat) : List Dt := (List.range n).map fun i => .int (lo + (i : Nat))
def piRng1 (T : PA') : List Sl → (List Dt → Prop) → Prop := fun ρ Q => T ρ fun
  | [.int j] => j < 2 ^ 62 ∧ -(2 ^ 62) ≤ j ∧ Q (rng 0 j.toNat)
  | _ => False
def piRng2 (T : PA') : List Sl → (List Dt → Prop) → Prop := fun ρ Q => T ρ fun
  | [.int i, .int j] => (-(2 ^ 62) ≤ i ∧ i < 2 ^ 62 ∧ -(2 ^ 62) ≤ j ∧ j < 2 ^ 62) ∧ Q (rng i (j - i).toNat)
  | _ => False
section
variable {K : PySem.W.Frag} {Z : Zc} {t : TE} {T : PE'} {ta : TA} {Ta : PA'}
theorem lD_of {Q : List Dt → Prop} {d : Dt} (h : lD Q d) : ∃ ds, cl d = some (.lst ds) ∧ Q ds := by
  cases d with
  | lst ds => exact ⟨ds, rfl, h⟩
  | fre ds => exact ⟨ds, rfl, h⟩
  | _ => exact False.elim h
theorem tD_of {Q : List Dt → Prop} {d : Dt} (h : tD Q d) : ∃ ds, d = .tup ds ∧ Q ds := by
  cases d with
  | tup ds => exact ⟨ds, rfl, h⟩
  | _ => exact False.elim h
theorem sD_of {Q : Str → Prop} {d : Dt} (h : sD Q d) : ∃ x, d = .str x ∧ Q x := by
  cases d with
  | str x => exact ⟨x, rfl, h⟩
  | _ => exact False.elim h
theorem SqL.mv {A : List Addr} {H H' : Hp} {a : Addr} {xs ys : List V} (m : Mv A H H') (n : a ∉ A) (e : H a = some (.lst xs)) (h : SqL K H' a ys) (hk : K.lookup a = none) : ys = xs := by
  rcases h with h | ⟨o, _, _, z, _⟩
  · have e' := m.1 _ _ n e
    rcases h with h | ⟨o, h⟩
    · rw [e'] at h
      cases h
      rfl
    · rw [e'] at h
      cases h
  · rw [hk] at z
    cases z
theorem s_iStr (h1 : SimE K Z t T) : SimI K Z (iStr t) (piStr T) := ⟨fun A0 A σ ρ H G Q s h k => h1.run A0 A σ ρ H _ _ s h fun d v H1 x1 r1 q1 => by
  obtain ⟨x, rfl, q⟩ := sD_of q1
  refine ⟨x, r1.si, k _ _ _ x1 (fun A' H2 m n i => ?_) q⟩
  have hs : x.cps.toList.length = x.cps.size := by simp
  refine ⟨fun hl => ?_, fun d hd => ?_⟩
  · show x.cps.size ≤ i
    rw [List.length_map, hs] at hl
    omega
  · rw [List.getElem?_map] at hd
    cases hc : x.cps.toList[i]? with
    | none =>
      rw [hc] at hd
      cases hd
    | some c =>
      rw [hc] at hd
      cases hd
      have hi : i < x.cps.toList.length := (List.getElem?_eq_some_iff.mp hc).1
      refine ⟨by rw [hs] at hi; exact hi, fun v H3 hy => ?_⟩
      obtain ⟨rfl, c', hc', rfl⟩ := hy
      have e : x.cps.toList[i]? = some c' := by simpa using hc'
      rw [hc] at e
      cases e
      exact ⟨fun _ _ e => e, .s _⟩⟩
theorem ito_rng {A : List Addr} {H : Hp} {lo : Int} {n : Nat} : Ito K A (Itr lo n) H (rng lo n) := fun A' H2 m nw i => by
  refine ⟨fun hl => ?_, fun d hd => ?_⟩
  · show n ≤ i
    have e : i = n := by simpa [rng] using hl
    omega
  · unfold rng at hd
    rw [List.getElem?_map] at hd
    cases hc : (List.range n)[i]? with
    | none =>
      rw [hc] at hd
      cases hd
    | some c =>
      rw [hc] at hd
      cases hd
      obtain ⟨hi, e⟩ := List.getElem?_eq_some_iff.mp hc
      rw [List.getElem_range] at e
      subst e
      refine ⟨(show i < n by simpa using hi), fun v H3 hy => ?_⟩
      obtain ⟨rfl, rfl⟩ := hy
      exact ⟨fun _ _ e => e, .i _⟩
theorem s_iRng1 (h1 : SimA K Z ta Ta) : SimI K Z (iRng1 ta) (piRng1 Ta) := ⟨fun A0 A σ ρ H G Q s h k => h1.run A0 A σ ρ H _ _ s h fun ds vs H1 x1 r1 q1 => by
  split at q1
  · rename_i j
    obtain ⟨x, r, rfl, h2, h3⟩ := r1
    cases h3
    cases h2.ii
    exact ⟨j, rfl, q1.2.1, q1.1, k _ _ _ x1 ito_rng q1.2.2⟩
  · exact False.elim q1⟩
theorem s_iRng2 (h1 : SimA K Z ta Ta) : SimI K Z (iRng2 ta) (piRng2 Ta) := ⟨fun A0 A σ ρ H G Q s h k => h1.run A0 A σ ρ H _ _ s h fun ds vs H1 x1 r1 q1 => by
  split at q1
  · rename_i i j
    obtain ⟨x, r, rfl, h2, y, r', e, h3, h4⟩ := r1
    cases h4
    cases h2.ii
    cases h3.ii
    subst e
    exact ⟨i, j, rfl, q1.1, k _ _ _ x1 ito_rng q1.2⟩
  · exact False.elim q1⟩
end
/-! ### statements -/
structure Pe where
  nx : List Sl → Prop
  rt : Dt → Prop
  bk : List Sl → Prop := fun _ => False
  ct : List Sl → Prop := fun _ => False
abbrev PS' := Pe → List Sl → Prop
/-- what a statement may change -/
structure Wr (Z : Zc) (A0 A : List Addr) (H : Hp) (A' : List Addr) (H' : Hp) : Prop where
  kp : ∀ b o, (b ∈ A → b ∈ A0 ∧ Z.p ≠ some b) → H b = some o → H' b = some o
  nw : Nw A A' H
  pk : Pk Z H'
structure EndOk (K : PySem.W.Frag) (Z : Zc) (A0 A : List Addr) (H : Hp) (D : Ends) (P : Pe) : Prop where
  nx : ∀ A' σ' ρ' H', Sg K Z A0 A' σ' H' ρ' → Wr Z A0 A H A' H' → P.nx ρ' → D.nx σ' H'
  bk : ∀ A' σ' ρ' H', Sg K Z A0 A' σ' H' ρ' → Wr Z A0 A H A' H' → P.bk ρ' → D.bk σ' H'
  ct : ∀ A' σ' ρ' H', Sg K Z A0 A' σ' H' ρ' → Wr Z A0 A H A' H' → P.ct ρ' → D.ct σ' H'
  rt : ∀ A' H' d v, Wr Z A0 A H A' H' → R K A0 H' d v → P.rt d → D.rt v H'
structure SimS (K : PySem.W.Frag) (Z : Zc) (t : TS) (T : PS') : Prop where
  run : ∀ (A0 A : List Addr) (σ : L2.St) (ρ : List Sl) (H : Hp) (D : Ends) (P : Pe), Sg K Z A0 A σ H ρ → T P ρ → EndOk K Z A0 A H D P → t D σ H
section
variable {K : PySem.W.Frag} {Z : Zc} {A0 A A1 A2 : List Addr} {H H1 H2 : Hp} {σ : L2.St} {ρ : List Sl} {D : Ends} {P : Pe}
theorem Wr.tr (a : Wr Z A0 A H A1 H1) (b : Wr Z A0 A1 H1 A2 H2) : Wr Z A0 A H A2 H2 := by
  refine ⟨fun c o n e => b.kp c o (fun z => ?_) (a.kp c o n e), fun c hc => ?_, b.pk⟩
  · rcases a.nw c z with q | q
    · exact n q
    · rw [q] at e
      cases e
  · rcases b.nw c hc with q | q
    · exact a.nw c q
    · by_cases hA : c ∈ A
      · exact .inl hA
      · right
        cases e : H c with
        | none => rfl
        | some o =>
          rw [a.kp c o (fun z => absurd z hA) e] at q
          cases q
theorem Wr.ex (g : Good Z A H) (x : Ex Z H H1) : Wr Z A0 A H A H1 := ⟨fun b o n e => x.kp b o (fun z => (n (g.pA b z)).2 z) e, .rf, x.pk⟩
theorem EndOk.ex (g : Good Z A H) (x : Ex Z H H1) (E : EndOk K Z A0 A H D P) : EndOk K Z A0 A H1 D P :=
  ⟨fun A' σ' ρ' H' s w => E.nx A' σ' ρ' H' s ((Wr.ex g x).tr w), fun A' σ' ρ' H' s w => E.bk A' σ' ρ' H' s ((Wr.ex g x).tr w), fun A' σ' ρ' H' s w => E.ct A' σ' ρ' H' s ((Wr.ex g x).tr w), fun A' H' d v w => E.rt A' H' d v ((Wr.ex g x).tr w)⟩
theorem EndOk.wr (w0 : Wr Z A0 A H A1 H1) (E : EndOk K Z A0 A H D P) : EndOk K Z A0 A1 H1 D P :=
  ⟨fun A' σ' ρ' H' s w => E.nx A' σ' ρ' H' s (w0.tr w), fun A' σ' ρ' H' s w => E.bk A' σ' ρ' H' s (w0.tr w), fun A' σ' ρ' H' s w => E.ct A' σ' ρ' H' s (w0.tr w), fun A' H' d v w => E.rt A' H' d v (w0.tr w)⟩
end
def pNext : PS' := fun P ρ => P.nx ρ
def pSeq (T U : PS') : PS' := fun P ρ => T { P with nx := U P } ρ
def pAsg (T : PE') (g : PG') : PS' := fun P ρ => T ρ fun d => oD (cl d) fun d' => g d' ρ P.nx
def pSet (i : Nat) (T : PE') : PS' := fun P ρ => T ρ fun d => oD (cl d) fun d' => P.nx (ρ.set i (.sh d'))
def pOwn (i : Nat) (T : PE') : PS' := fun P ρ => T ρ fun
  | .fre ds => i < ρ.length ∧ P.nx (ρ.set i (.own ds))
  | _ => False
def pDrop (T : PE') : PS' := fun P ρ => T ρ fun _ => P.nx ρ
def rv (ρ : List Sl) : Dt → Option Dt
  | .slot i => match ρ[i]? with
    | some (.own ds) => some (.lst ds)
    | _ => none
  | d => cl d
def pRet (T : PE') : PS' := fun P ρ => T ρ fun d => oD (rv ρ d) P.rt
def pRetN : PS' := fun P _ => P.rt .non
def pIfS (c : PT') (T U : PS') : PS' := fun P ρ => c ρ fun b => if b = true then T P ρ else U P ρ
def pNever : PS' := fun _ _ => False
def pPar (i j : Nat) (T : PA') : PS' := fun P ρ => T ρ fun ds => oD (cls ds) fun
  | [a, b] => P.nx ((ρ.set i (.sh a)).set j (.sh b))
  | _ => False
def ownD (o : Option Sl) (Q : List Dt → Prop) : Prop := match o with
  | some (.own ds) => Q ds
  | _ => False
def iD (Q : Int → Prop) : Dt → Prop
  | .int k => Q k
  | _ => False
def pApp (i : Nat) (T : PE') : PS' := fun P ρ => ownD ρ[i]? fun ds => T ρ fun d => oD (cl d) fun d' => ds.length < sizeLine ∧ P.nx (ρ.set i (.own (ds ++ [d'])))
def pSetI (i : Nat) (Ti Te : PE') : PS' := fun P ρ => ownD ρ[i]? fun ds => Te ρ fun d => oD (cl d) fun d' => Ti ρ (iD fun k => oD (ixN ds.length k) fun j => P.nx (ρ.set i (.own (ds.set j d'))))
def pForGo (g : PG') (B : PS') (P : Pe) : List Dt → List Sl → Prop
  | [], ρ => P.nx ρ
  | d :: ds, ρ => g d ρ fun ρ1 => B { nx := pForGo g B P ds, rt := P.rt, bk := P.nx, ct := pForGo g B P ds } ρ1
def pFor (I : List Sl → (List Dt → Prop) → Prop) (g : PG') (B : PS') : PS' := fun P ρ => I ρ fun ds => pForGo g B P ds ρ
section
variable {K : PySem.W.Frag} {Z : Zc} {t u : TE} {T U : PE'} {ta : TA} {Ta : PA'} {tt : TT} {Tt : PT'} {ts us : TS} {Ts Us : PS'} {i j : Nat}
theorem s_next : SimS K Z tNext pNext := ⟨fun A0 A σ ρ H D P s h E => E.nx A σ ρ H s (Wr.ex s.g (.rf s.g.pk)) h⟩
theorem s_seq (h1 : SimS K Z ts Ts) (h2 : SimS K Z us Us) : SimS K Z (tSeq ts us) (pSeq Ts Us) := ⟨fun A0 A σ ρ H D P s h E =>
  h1.run A0 A σ ρ H _ _ s h ⟨fun A' σ' ρ' H' s' w q => h2.run A0 A' σ' ρ' H' D P s' q (E.wr w), E.bk, E.ct, E.rt⟩⟩
theorem s_asg {js : List Nat} {g : TG} {p : PG'} (h1 : SimE K Z t T) (h2 : SimG K js g p) : SimS K Z (tAsg t g) (pAsg T p) := ⟨fun A0 A σ ρ H D P s h E => h1.run A0 A σ ρ H _ _ s h fun d v H1 x1 r1 q1 => by
  obtain ⟨d', e, q⟩ := oD_of q1
  have r := cl_R s.g r1 e
  exact h2.run Z A0 A σ ρ H1 d' v _ _ (s.ex x1) r q fun σ' ρ' s' _ q' => E.nx A σ' ρ' H1 s' (Wr.ex s.g x1) q'⟩
theorem s_set (h1 : SimE K Z t T) : SimS K Z (tAsg t (gName i)) (pSet i T) := ⟨fun A0 A σ ρ H D P s h E => h1.run A0 A σ ρ H _ _ s h fun d v H1 x1 r1 q1 => by
  obtain ⟨d', e, q⟩ := oD_of q1
  exact E.nx A _ _ H1 ((s.ex x1).put (cl_R s.g r1 e)) (Wr.ex s.g x1) q⟩
theorem s_own (h1 : SimE K Z t T) : SimS K Z (tAsg t (gName i)) (pOwn i T) := ⟨fun A0 A σ ρ H D P s h E => h1.run A0 A σ ρ H _ _ s h fun d v H1 x1 r1 q1 => by
  cases d with
  | fre ds =>
    obtain ⟨hi, q⟩ := q1
    obtain ⟨a, xs, rfl, h0, e1, e2⟩ := r1
    have s1 := s.ex x1
    have hA : a ∉ A := s.g.new h0
    have hn : ∀ b ∈ a :: A, b ∈ A ∨ H b = none := Nw.cons h0
    have mv1 := s.g.mv x1
    have w : Wr Z A0 A H (a :: A) H1 := ⟨(Wr.ex (A0 := A0) s.g x1).kp, hn, x1.pk⟩
    refine E.nx (a :: A) _ _ H1 ⟨⟨fun p e => List.mem_cons_of_mem _ (s.g.pA p e), x1.pk, fun b hb => ?_⟩, ⟨by rw [List.length_set, List.length_set, s.er.len], fun j d e => ?_, fun j es e => ?_, fun j l es fs b n e3 e4 e5 => ?_⟩, s.p0, fun b hb => List.mem_cons_of_mem _ (s.a0 b hb)⟩ w q
    · rcases List.mem_cons.mp hb with z | z
      · rw [z]
        exact ⟨xs, e1⟩
      · exact s1.g.lv b z
    · by_cases hj : i = j
      · subst hj
        rw [List.getElem?_set_self hi] at e
        cases e
      · rw [List.getElem?_set_ne hj] at e ⊢
        obtain ⟨v, h2, h3⟩ := s.er.sh j d e
        exact ⟨v, h2, R.mv2 mv1 hn _ _ h3⟩
    · by_cases hj : i = j
      · subst hj
        rw [List.getElem?_set_self hi] at e
        cases e
        refine ⟨a, xs, by rw [List.getElem?_set_self (by rw [s.er.len]; exact hi)], List.mem_cons_self .., fun z => hA (s.a0 a z), e1, e2⟩
      · rw [List.getElem?_set_ne hj] at e ⊢
        obtain ⟨b, ys, h2, h3, h4, h5, h6⟩ := s.er.ow j es e
        exact ⟨b, ys, h2, List.mem_cons_of_mem _ h3, h4, x1.kp _ _ (fun z => h4 (s.p0 b z)) h5, Rs.mv2 mv1 hn _ _ h6⟩
    · have key : ∀ (l : Nat) (fs : List Dt), i ≠ l → ρ[l]? = some (.own fs) → σ[l]? ≠ some (some (.ref a)) := fun l fs hl e z => by
        obtain ⟨b, ys, h2, h3, _⟩ := s.er.ow l fs e
        rw [z] at h2
        cases h2
        exact hA h3
      by_cases hj : i = j
      · subst hj
        rw [List.getElem?_set_self (by rw [s.er.len]; exact hi)] at e5
        cases e5
        rw [List.getElem?_set_ne n] at e4 ⊢
        exact key l fs n e4
      · rw [List.getElem?_set_ne hj] at e3 e5
        by_cases hl : i = l
        · subst hl
          rw [List.getElem?_set_self (by rw [s.er.len]; exact hi)]
          intro z
          cases z
          exact key j es hj e3 e5
        · rw [List.getElem?_set_ne hl] at e4 ⊢
          exact s.er.dis j l es fs b n e3 e4 e5
  | _ => exact False.elim q1⟩
theorem s_drop (h1 : SimE K Z t T) : SimS K Z (tDrop t) (pDrop T) := ⟨fun A0 A σ ρ H D P s h E => h1.run A0 A σ ρ H _ _ s h fun d v H1 x1 r1 q1 => E.nx A σ ρ H1 (s.ex x1) (Wr.ex s.g x1) q1⟩
theorem s_ret (h1 : SimE K Z t T) : SimS K Z (tRet t) (pRet T) := ⟨fun A0 A σ ρ H D P s h E => h1.run A0 A σ ρ H _ _ s h fun d v H1 x1 r1 q1 => by
  obtain ⟨d', e, q⟩ := oD_of q1
  have dn : Nw A A0 H1 := fun b hb => .inl (s.a0 b hb)
  refine E.rt A H1 d' v (Wr.ex s.g x1) ?_ q
  cases d with
  | slot i =>
    obtain ⟨h2, ds, h3⟩ := r1
    simp only [rv, h3] at e
    cases e
    obtain ⟨a, xs, h4, _, h6, h7, h8⟩ := (s.ex x1).er.ow i ds h3
    rw [h2] at h4
    cases h4
    exact .l h6 h7 (Rs.up dn _ _ h8)
  | _ => exact R.up dn _ _ (cl_R s.g r1 e)⟩
theorem s_retN : SimS K Z tRetN pRetN := ⟨fun A0 A σ ρ H D P s h E => E.rt A H .non .non (Wr.ex s.g (.rf s.g.pk)) .n h⟩
theorem s_ifS (hc : SimT K Z tt Tt) (h1 : SimS K Z ts Ts) (h2 : SimS K Z us Us) : SimS K Z (tIfS tt ts us) (pIfS Tt Ts Us) := ⟨fun A0 A σ ρ H D P s h E => hc.run A0 A σ ρ H _ _ s h fun c H1 x1 q => by
  cases c with
  | true => exact h1.run A0 A σ ρ H1 D P (s.ex x1) q (E.ex s.g x1)
  | false => exact h2.run A0 A σ ρ H1 D P (s.ex x1) q (E.ex s.g x1)⟩
theorem s_never {t : TS} : SimS K Z t pNever := ⟨fun A0 A σ ρ H D P s h E => False.elim h⟩
theorem s_par (h1 : SimA K Z ta Ta) : SimS K Z (tPar i j ta) (pPar i j Ta) := ⟨fun A0 A σ ρ H D P s h E => h1.run A0 A σ ρ H _ _ s h fun ds vs H1 x1 r1 q1 => by
  obtain ⟨es, e, q⟩ := oD_of q1
  have r := cls_R s.g r1 e
  split at q
  · rename_i a b
    obtain ⟨x, r2, rfl, ra, rb'⟩ := r.ci
    obtain ⟨y, r3, rfl, rb, rn⟩ := rb'.ci
    cases rn.ni
    exact ⟨x, y, rfl, E.nx A _ _ H1 (((s.ex x1).put ra).put rb) (Wr.ex s.g x1) q⟩
  · exact False.elim q⟩
/-- an owned list is changed -/
theorem Sg.own {A0 A : List Addr} {H : Hp} {σ : L2.St} {ρ : List Sl} (s : Sg K Z A0 A σ H ρ) {ds es : List Dt} {a : Addr} {ys : List V} (e : ρ[i]? = some (.own ds)) (e2 : σ[i]? = some (some (.ref a))) (r : Rs K A H es ys) :
    Sg K Z A0 A σ (upd H a (.lst ys)) (ρ.set i (.own es)) ∧ Wr Z A0 A H A (upd H a (.lst ys)) := by
  obtain ⟨b, xs, h1, h2, h3, h4, h5⟩ := s.er.ow i ds e
  rw [e2] at h1
  cases h1
  have hp : ∀ p, Z.p = some p → p ≠ a := fun p q z => h3 (by rw [← z]; exact s.p0 p q)
  have m : Mv A H (upd H a (.lst ys)) := ⟨fun c o n q => by
    rw [upd_ne (fun z => n (by rw [z]; exact h2))]
    exact q, s.g.lv⟩
  have pk : Pk Z (upd H a (.lst ys)) := fun p q => by
    obtain ⟨is, z1, z2⟩ := s.g.pk p q
    exact ⟨is, by rw [upd_ne (hp p q)]; exact z1, z2⟩
  have hi : i < ρ.length := (List.getElem?_eq_some_iff.mp e).1
  refine ⟨⟨⟨s.g.pA, pk, fun c hc => ?_⟩, ⟨by rw [List.length_set, s.er.len], fun j d q => ?_, fun j fs q => ?_, fun j l fs gs c n q1 q2 q3 => ?_⟩, s.p0, s.a0⟩, ⟨fun c o n q => ?_, .rf, pk⟩⟩
  · by_cases hca : c = a
    · rw [hca]
      exact ⟨ys, upd_same⟩
    · obtain ⟨zs, z⟩ := s.g.lv c hc
      exact ⟨zs, by rw [upd_ne hca]; exact z⟩
  · by_cases hj : i = j
    · subst hj
      rw [List.getElem?_set_self hi] at q
      cases q
    · rw [List.getElem?_set_ne hj] at q
      obtain ⟨v, h6, h7⟩ := s.er.sh j d q
      exact ⟨v, h6, R.mv m _ _ h7⟩
  · by_cases hj : i = j
    · subst hj
      rw [List.getElem?_set_self hi] at q
      cases q
      exact ⟨a, ys, e2, h2, h3, upd_same, Rs.mv m _ _ r⟩
    · rw [List.getElem?_set_ne hj] at q
      obtain ⟨c, zs, z1, z2, z3, z4, z5⟩ := s.er.ow j fs q
      refine ⟨c, zs, z1, z2, z3, ?_, Rs.mv m _ _ z5⟩
      rw [upd_ne (fun z => ?_)]
      · exact z4
      · subst z
        exact s.er.dis i j ds fs c hj e q e2 z1
  · have old : ∀ (j : Nat) (fs : List Dt), (ρ.set i (.own es))[j]? = some (.own fs) → ∃ gs, ρ[j]? = some (.own gs) := fun j fs q => by
      by_cases hj : i = j
      · subst hj
        exact ⟨ds, e⟩
      · rw [List.getElem?_set_ne hj] at q
        exact ⟨fs, q⟩
    obtain ⟨f1, g1⟩ := old j fs q1
    obtain ⟨f2, g2⟩ := old l gs q2
    exact s.er.dis j l f1 f2 c n g1 g2 q3
  · rw [upd_ne (fun z => h3 (by rw [← z]; exact (n (by rw [z]; exact h2)).1))]
    exact q
theorem ownD_of {o : Option Sl} {Q : List Dt → Prop} (h : ownD o Q) : ∃ ds, o = some (.own ds) ∧ Q ds := by
  unfold ownD at h
  split at h
  · exact ⟨_, rfl, h⟩
  · exact False.elim h
theorem iD_of {Q : Int → Prop} {d : Dt} (h : iD Q d) : ∃ k, d = .int k ∧ Q k := by
  cases d with
  | int k => exact ⟨k, rfl, h⟩
  | _ => exact False.elim h
theorem s_app (h1 : SimE K Z t T) : SimS K Z (tDrop (tBM K "list" rAppend (tVar i) (tCons t tNil))) (pApp i T) := ⟨fun A0 A σ ρ H D P s h E => by
  obtain ⟨ds, e, h⟩ := ownD_of h
  obtain ⟨a, xs, e1, e2, e3, e4, e5⟩ := s.er.ow i ds e
  refine ⟨.ref a, e1, Or.inl ⟨rfl, _, Or.inl (Or.inl e4)⟩, ?_⟩
  refine h1.run A0 A σ ρ H _ _ s h fun d v H1 x1 r1 q1 => ?_
  obtain ⟨d', ed, hl, q⟩ := oD_of q1
  have r := cl_R s.g r1 ed
  have s1 := s.ex x1
  have e4' : H1 a = some (.lst xs) := x1.kp _ _ (fun z => e3 (s.p0 a z)) e4
  have e5' := Rs.mv (s.g.mv x1) _ _ e5
  refine ⟨a, xs, v, rfl, rfl, e4', by rw [e5'.len]; exact hl, ?_⟩
  obtain ⟨s2, w2⟩ := s1.own e e1 (e5'.app (.c r .n))
  exact E.nx A _ _ _ s2 ((Wr.ex s.g x1).tr w2) q⟩
theorem s_setI {ti : TE} {Ti : PE'} (h1 : SimE K Z t T) (h2 : SimE K Z ti Ti) : SimS K Z (tAsg t (gSub (tVar i) ti rSetL)) (pSetI i Ti T) := ⟨fun A0 A σ ρ H D P s h E => by
  obtain ⟨ds, e, h⟩ := ownD_of h
  obtain ⟨a, xs, e1, e2, e3, e4, e5⟩ := s.er.ow i ds e
  refine h1.run A0 A σ ρ H _ _ s h fun d v H1 x1 r1 q1 => ?_
  obtain ⟨d', ed, q⟩ := oD_of q1
  have r := cl_R s.g r1 ed
  have s1 := s.ex x1
  refine ⟨.ref a, e1, ?_⟩
  refine h2.run A0 A σ ρ H1 _ _ s1 q fun dk vk H2 x2 r2 q2 => ?_
  obtain ⟨k, rfl, q2⟩ := iD_of q2
  obtain ⟨j, hj, q2⟩ := oD_of q2
  cases r2.ii
  have x12 := x1.tr x2
  have e4' : H2 a = some (.lst xs) := x12.kp _ _ (fun z => e3 (s.p0 a z)) e4
  have e5' := Rs.mv (s.g.mv x12) _ _ e5
  refine ⟨a, xs, k, j, rfl, rfl, e4', by rw [e5'.len]; exact hj, ?_⟩
  obtain ⟨s2, w2⟩ := (s.ex x12).own e e1 (e5'.set (R.mv (s1.g.mv x2) _ _ r) j)
  exact E.nx A _ _ _ s2 ((Wr.ex s.g x12).tr w2) q2⟩
theorem Wr.mv {A0 A A' : List Addr} {H H' : Hp} (g : Good Z A H) (w : Wr Z A0 A H A' H') : Mv A H H' := ⟨fun b o n e => w.kp b o (fun z => absurd z n) e, g.lv⟩
theorem s_for {wi : TI} {I : List Sl → (List Dt → Prop) → Prop} {js : List Nat} {g : TG} {p : PG'} (hi : SimI K Z wi I) (hg : SimG K js g p) (hb : SimS K Z ts Ts) : SimS K Z (tFor wi g ts) (pFor I p Ts) := ⟨fun A0 A σ ρ H D P s h E => by
  refine hi.run A0 A σ ρ H _ _ s h fun J ds H1 x1 ito q => ?_
  have s1 := s.ex x1
  have E1 := E.ex s.g x1
  refine ⟨fun i m σ' H' => m = ds.length - i ∧ i ≤ ds.length ∧ ∃ A' ρ', Sg K Z A0 A' σ' H' ρ' ∧ Wr Z A0 A H1 A' H' ∧ pForGo p Ts P (ds.drop i) ρ', ⟨_, rfl, Nat.zero_le _, A, ρ, s1, Wr.ex s1.g (.rf s1.g.pk), q⟩, ?_⟩
  rintro i m σ' H' ⟨rfl, hi, A', ρ', s', w', q'⟩
  have it := ito A' H' (w'.mv s1.g) w'.nw i
  by_cases hl : i < ds.length
  · obtain ⟨hgo, hy⟩ := it.2 ds[i] (by simp [hl])
    refine .inr ⟨hgo, fun σ2 H2 => ∃ A2 ρ2, Sg K Z A0 A2 σ2 H2 ρ2 ∧ Wr Z A0 A H1 A2 H2 ∧ pForGo p Ts P (ds.drop (i + 1)) ρ2, fun σ2 H2 h2 => ⟨ds.length - (i + 1), by omega, rfl, hl, h2⟩, fun x H3 yl => ?_⟩
    obtain ⟨sm, r⟩ := hy x H3 yl
    have x3 : Ex Z H' H3 := .sm s'.g.pk sm
    have ed : ds.drop i = ds[i] :: ds.drop (i + 1) := List.drop_eq_getElem_cons hl
    rw [ed] at q'
    have q2 : p ds[i] ρ' fun ρ1 => Ts { nx := pForGo p Ts P (ds.drop (i + 1)), rt := P.rt, bk := P.nx, ct := pForGo p Ts P (ds.drop (i + 1)) } ρ1 := q'
    refine hg.run Z A0 A' σ' ρ' H3 _ x _ _ (s'.ex x3) r q2 fun σ4 ρ4 s4 _ h4 => ?_
    have w3 : Wr Z A0 A H1 A' H3 := w'.tr (Wr.ex s'.g x3)
    refine hb.run A0 A' σ4 ρ4 H3 _ _ s4 h4 ⟨fun A5 σ5 ρ5 H5 s5 w5 h5 => ⟨A5, ρ5, s5, w3.tr w5, h5⟩, fun A5 σ5 ρ5 H5 s5 w5 h5 => E1.nx A5 σ5 ρ5 H5 s5 (w3.tr w5) h5, fun A5 σ5 ρ5 H5 s5 w5 h5 => ⟨A5, ρ5, s5, w3.tr w5, h5⟩, fun A5 H5 d v w5 r5 h5 => E1.rt A5 H5 d v (w3.tr w5) r5 h5⟩
  · have e : i = ds.length := by omega
    subst e
    refine .inl ⟨it.1 rfl, E1.nx A' σ' ρ' H' s' w' ?_⟩
    rw [List.drop_length] at q'
    exact q'⟩
/-! ### comprehensions -/
def wipeP (ρ : List Sl) : List Nat → List Sl
  | [] => ρ
  | v :: vs => (wipeP ρ vs).set v .un
theorem Er.wipe {A0 A : List Addr} {H : Hp} {σ : L2.St} {ρ : List Sl} (s : Er K A0 A σ H ρ) : ∀ vs, Er K A0 A (L2.wipe σ vs) H (wipeP ρ vs)
  | [] => s
  | v :: vs => (Er.wipe s vs).un
theorem wipe_at {σ : L2.St} : ∀ {vs : List Nat} {i : Nat}, i ∈ vs → (L2.wipe σ vs)[i]? = if i < σ.length then some none else none
  | v :: vs, i, h => by
    unfold L2.wipe
    by_cases e : v = i
    · subst e
      by_cases hl : v < σ.length
      · rw [List.getElem?_set_self (by rw [wipe_length]; exact hl), if_pos hl]
      · rw [if_neg hl, List.getElem?_eq_none (by rw [List.length_set, wipe_length]; omega)]
    · rw [List.getElem?_set_ne e]
      rcases List.mem_cons.mp h with z | z
      · exact absurd z.symm e
      · exact wipe_at z
theorem wipe_off {σ : L2.St} : ∀ {vs : List Nat} {i : Nat}, i ∉ vs → (L2.wipe σ vs)[i]? = σ[i]?
  | [], i, h => rfl
  | v :: vs, i, h => by
    unfold L2.wipe
    rw [List.getElem?_set_ne (fun e => h (by rw [e]; exact List.mem_cons_self ..))]
    exact wipe_off fun z => h (List.mem_cons_of_mem _ z)
theorem wipe_eq {σ τ : L2.St} {vs js : List Nat} (hl : σ.length = τ.length) (hj : ∀ i ∈ js, i ∈ vs) (h : ∀ i, i ∉ js → σ[i]? = (L2.wipe τ vs)[i]?) : L2.wipe σ vs = L2.wipe τ vs := by
  refine List.ext_getElem? fun i => ?_
  by_cases hi : i ∈ vs
  · rw [wipe_at hi, wipe_at hi, hl]
  · rw [wipe_off hi, h i (fun z => hi (hj i z))]
def pLcGo (g : PG') (Tt : PT') (Te : PE') (ρ : List Sl) (Q : List Dt → Prop) : List Dt → List Dt → Prop
  | [], acc => Q acc
  | d :: ds, acc => g d ρ fun ρ1 => Tt ρ1 fun b => if b = true then Te ρ1 fun y => oD (cl y) fun y' => acc.length < sizeLine ∧ pLcGo g Tt Te ρ Q ds (acc ++ [y']) else pLcGo g Tt Te ρ Q ds acc
def pLc (I : List Sl → (List Dt → Prop) → Prop) (g : PG') (Tt : PT') (Te : PE') (vs : List Nat) : PE' := fun ρ Q => I ρ fun ds => pLcGo g Tt Te (wipeP ρ vs) (fun acc => Q (.fre acc)) ds []
def pYes : PT' := fun _ Q => Q true
theorem s_yes : SimT K Z tYes pYes := ⟨fun A0 A σ ρ H G Q s h k => k true H (.rf s.g.pk) h⟩
/-- within: D the list that is made -/
structure Lc (K : PySem.W.Frag) (Z : Zc) (A0 A : List Addr) (σ : L2.St) (ρ : List Sl) (H1 : Hp) (D : Addr) (acc : List Dt) (H : Hp) : Prop where
  s : Sg K Z (D :: A0) (D :: A) σ H ρ
  k : ∀ b o, b ≠ D → Z.p ≠ some b → H1 b = some o → H b = some o
  d : ∃ xs, H D = some (.lst xs) ∧ Rs K (D :: A) H acc xs
theorem Lc.ex {A0 A : List Addr} {H1 H H2 : Hp} {σ : L2.St} {ρ : List Sl} {Da : Addr} {acc : List Dt} (hD : H1 Da = none) (g1 : Good Z A H1) (l : Lc K Z A0 A σ ρ H1 Da acc H) (x : Ex Z H H2) : Lc K Z A0 A σ ρ H1 Da acc H2 := by
  have hz : Z.p ≠ some Da := fun z => by
    obtain ⟨xs, e⟩ := g1.lv Da (g1.pA Da z)
    rw [hD] at e
    cases e
  obtain ⟨xs, e, r⟩ := l.d
  exact ⟨l.s.ex x, fun b o n m q => x.kp _ _ m (l.k b o n m q), xs, x.kp _ _ hz e, Rs.mv (l.s.g.mv x) _ _ r⟩
theorem Lc.put {A0 A : List Addr} {H1 H : Hp} {σ : L2.St} {ρ : List Sl} {Da : Addr} {acc : List Dt} {y : Dt} {v : V} (l : Lc K Z A0 A σ ρ H1 Da acc H) (hz : Z.p ≠ some Da) (r : R K (Da :: A) H y v) :
    ∃ xs, H Da = some (.lst xs) ∧ xs.length = acc.length ∧ Lc K Z A0 A σ ρ H1 Da (acc ++ [y]) (upd H Da (.lst (xs ++ [v]))) := by
  obtain ⟨xs, e, q⟩ := l.d
  refine ⟨xs, e, q.len, ?_⟩
  have m : Mv (Da :: A) H (upd H Da (.lst (xs ++ [v]))) := ⟨fun b o n h => by
    rw [upd_ne (fun z => n (by rw [z]; exact List.mem_cons_self ..))]
    exact h, l.s.g.lv⟩
  have pk : Pk Z (upd H Da (.lst (xs ++ [v]))) := fun p h => by
    obtain ⟨is, z1, z2⟩ := l.s.g.pk p h
    exact ⟨is, by rw [upd_ne (fun z => hz (by rw [← z]; exact h))]; exact z1, z2⟩
  refine ⟨⟨⟨l.s.g.pA, pk, fun a ha => ?_⟩, ⟨l.s.er.len, fun i d h => ?_, fun i ds h => ?_, l.s.er.dis⟩, l.s.p0, l.s.a0⟩, fun b o n m2 h => ?_, xs ++ [v], upd_same, (Rs.mv m _ _ q).app (.c (R.mv m _ _ r) .n)⟩
  · by_cases ea : a = Da
    · rw [ea]
      exact ⟨_, upd_same⟩
    · obtain ⟨zs, z⟩ := l.s.g.lv a ha
      exact ⟨zs, by rw [upd_ne ea]; exact z⟩
  · obtain ⟨w, h1, h2⟩ := l.s.er.sh i d h
    exact ⟨w, h1, R.mv m _ _ h2⟩
  · obtain ⟨a, zs, h1, h2, h3, h4, h5⟩ := l.s.er.ow i ds h
    refine ⟨a, zs, h1, h2, h3, ?_, Rs.mv m _ _ h5⟩
    rw [upd_ne (fun z => h3 (by rw [z]; exact List.mem_cons_self ..))]
    exact h4
  · rw [upd_ne n]
    exact l.k b o n m2 h
theorem lc_start {A0 A : List Addr} {H1 : Hp} {σ : L2.St} {ρ : List Sl} {Da : Addr} (s : Sg K Z A0 A σ H1 ρ) (hD : H1 Da = none) (vs : List Nat) : Lc K Z A0 A (L2.wipe σ vs) (wipeP ρ vs) H1 Da [] (upd H1 Da (.lst [])) := by
  have m : Mv A H1 (upd H1 Da (.lst [])) := ⟨fun b o n h => same_new hD b o h, s.g.lv⟩
  have n : Nw A (Da :: A) H1 := Nw.cons hD
  have sw := s.er.wipe vs
  have hA : Da ∉ A := s.g.new hD
  refine ⟨⟨⟨fun p e => List.mem_cons_of_mem _ (s.g.pA p e), (Ex.new s.g.pk hD).pk, fun a ha => ?_⟩, ⟨sw.len, fun i d h => ?_, fun i ds h => ?_, sw.dis⟩, fun p e => List.mem_cons_of_mem _ (s.p0 p e), fun b hb => ?_⟩, fun b o nb m2 h => same_new hD b o h, [], upd_same, .n⟩
  · rcases List.mem_cons.mp ha with e | e
    · rw [e]
      exact ⟨[], upd_same⟩
    · obtain ⟨zs, z⟩ := s.g.lv a e
      exact ⟨zs, same_new hD a _ z⟩
  · obtain ⟨w, h1, h2⟩ := sw.sh i d h
    exact ⟨w, h1, R.mv2 m n _ _ h2⟩
  · obtain ⟨a, zs, h1, h2, h3, h4, h5⟩ := sw.ow i ds h
    refine ⟨a, zs, h1, List.mem_cons_of_mem _ h2, fun z => ?_, same_new hD a _ h4, Rs.mv2 m n _ _ h5⟩
    rcases List.mem_cons.mp z with e | e
    · rw [e] at h2
      exact hA h2
    · exact h3 e
  · rcases List.mem_cons.mp hb with e | e
    · rw [e]
      exact List.mem_cons_self ..
    · exact List.mem_cons_of_mem _ (s.a0 b e)
theorem s_lc {wi : TI} {I : List Sl → (List Dt → Prop) → Prop} {js vs : List Nat} {g : TG} {p : PG'} (hi : SimI K Z wi I) (hg : SimG K js g p) (ht : SimT K Z tt Tt) (he : SimE K Z t T) (hj : ∀ i ∈ js, i ∈ vs) : SimE K Z (tLc wi g tt t vs) (pLc I p Tt T vs) := ⟨fun A0 A σ ρ H G Q s h k => by
  refine hi.run A0 A σ ρ H _ _ s h fun J ds H1 x1 ito q => ?_
  intro Da hD
  have s1 := s.ex x1
  have hz : Z.p ≠ some Da := fun z => by
    obtain ⟨xs, e⟩ := s1.g.lv Da (s1.g.pA Da z)
    rw [hD] at e
    cases e
  refine ⟨fun i m H' => m = ds.length - i ∧ i ≤ ds.length ∧ ∃ acc, Lc K Z A0 A (L2.wipe σ vs) (wipeP ρ vs) H1 Da acc H' ∧ pLcGo p Tt T (wipeP ρ vs) (fun acc => Q (.fre acc)) (ds.drop i) acc, ⟨_, rfl, Nat.zero_le _, [], lc_start s1 hD vs, q⟩, ?_⟩
  rintro i m H' ⟨rfl, hi, acc, l, q'⟩
  have mvD : Mv A H1 H' := ⟨fun b o n e => l.k b o (fun z => by
    rw [z, hD] at e
    cases e) (fun z => n (s1.g.pA b z)) e, s1.g.lv⟩
  have it := ito (Da :: A) H' mvD (Nw.cons hD) i
  by_cases hl : i < ds.length
  · obtain ⟨hgo, hy⟩ := it.2 ds[i] (by simp [hl])
    refine .inr ⟨hgo, fun H2 => ∃ acc, Lc K Z A0 A (L2.wipe σ vs) (wipeP ρ vs) H1 Da acc H2 ∧ pLcGo p Tt T (wipeP ρ vs) (fun acc => Q (.fre acc)) (ds.drop (i + 1)) acc, fun H2 h2 => ⟨ds.length - (i + 1), by omega, rfl, hl, h2⟩, fun x H3 yl => ?_⟩
    obtain ⟨sm, r⟩ := hy x H3 yl
    have l3 := l.ex hD s1.g (.sm l.s.g.pk sm)
    have ed : ds.drop i = ds[i] :: ds.drop (i + 1) := List.drop_eq_getElem_cons hl
    rw [ed] at q'
    unfold pLcGo at q'
    refine hg.run Z _ _ _ _ H3 _ x _ _ l3.s r q' fun σ4 ρ4 s4 o4 h4 => ?_
    have hlen : σ4.length = σ.length := by rw [o4.1, wipe_length]
    refine ⟨wipe_eq hlen hj fun i hi => o4.2 i hi, ?_⟩
    refine ht.run _ _ σ4 ρ4 H3 _ _ s4 h4 fun b H4 x4 h5 => ?_
    have l4 := l3.ex hD s1.g x4
    cases b with
    | false => exact ⟨acc, l4, h5⟩
    | true =>
      refine he.run _ _ σ4 ρ4 H4 _ _ (s4.ex x4) h5 fun y v H5 x5 r5 h6 => ?_
      obtain ⟨y', e6, hl6, h6⟩ := oD_of h6
      have r6 := cl_R (s4.ex x4).g r5 e6
      obtain ⟨xs, e7, e8, l6⟩ := (l4.ex hD s1.g x5).put hz r6
      exact ⟨xs, e7, by rw [e8]; exact hl6, acc ++ [y'], l6, h6⟩
  · have e : i = ds.length := by omega
    subst e
    rw [List.drop_length] at q'
    obtain ⟨xs, e1, e2⟩ := l.d
    exact .inl ⟨it.1 rfl, k (.fre acc) _ _ ⟨fun b o n h => l.k b o (fun z => by
      have := x1.kp b o n h
      rw [z, hD] at this
      cases this) n (x1.kp b o n h), l.s.g.pk⟩ ⟨Da, xs, rfl, x1.lv s.g.pk hD, e1, e2⟩ q'⟩⟩
end
end Pv

set_option maxRecDepth 100000
set_option maxHeartbeats 4000000
namespace Pv
open PySem PySem.Spec PyProof.Rows L2 Xv
/-! ### what operators and built-ins do with plain things -/
def p0I (g : Int → Int → Dt) : P2' := fun _ x y Q => match x, y with
  | .int i, .int j => Q (g i j)
  | _, _ => False
def pCI (C : Int → Int → Prop) (g : Int → Int → Dt) : P2' := fun _ x y Q => match x, y with
  | .int i, .int j => C i j ∧ Q (g i j)
  | _, _ => False
def pEq (f : Bool → Bool) : P2' := fun _ x y Q => match x, y with
  | .int i, .int j => Q (.bl (f (decide (i = j))))
  | .str a, .str b => Q (.bl (f (decide (a = b))))
  | .bl a, .bl b => Q (.bl (f (decide (a = b))))
  | .non, .non => Q (.bl (f true))
  | _, _ => False
def pAddS : P2' := fun _ x y Q => match x, y with
  | .str a, .str b => a.length + b.length ≤ sizeLine ∧ Q (.str (a ++ b))
  | _, _ => False
def pCat : P2' := fun ρ x y Q => oD (asL ρ x) fun a => oD (asL ρ y) fun b => a.length + b.length ≤ sizeLine ∧ Q (.fre (a ++ b))
def pCatT : P2' := fun _ x y Q => match x, y with
  | .tup a, .tup b => a.length + b.length ≤ sizeLine ∧ Q (.tup (a ++ b))
  | _, _ => False
def pInS (f : Bool → Bool) : P2' := fun _ x y Q => ∃ c z, x = sgn c ∧ y = .str z ∧ Q (.bl (f (decide (c ∈ z.cps.toList))))
def pIxL : P2' := fun ρ x y Q => oD (asL ρ x) fun ds => match y with
  | .int i => oD (atI ds i) Q
  | _ => False
def pIxT : P2' := fun _ x y Q => match x, y with
  | .tup ds, .int i => oD (atI ds i) Q
  | _, _ => False
def pIxS : P2' := fun _ x y Q => match x, y with
  | .str z, .int i => z.length ≤ sizeLine ∧ oD (atI z.cps.toList i) fun c => Q (sgn c)
  | _, _ => False
def pNeg : P1' := fun _ x Q => match x with
  | .int i => Q (.int (-i))
  | _ => False
def cutD {α : Type} (xs : List α) (lo hi : Option Int) : List α := (xs.drop (HT.sIx xs.length 0 lo)).take (HT.sIx xs.length xs.length hi - HT.sIx xs.length 0 lo)
/-- parts of a slice -/
abbrev PO' := List Sl → (Option Int → Prop) → Prop
structure SimO (K : PySem.W.Frag) (Z : Zc) (t : TO) (T : PO') : Prop where
  run : ∀ (A0 A : List Addr) (σ : L2.St) (ρ : List Sl) (H : Hp) (G : Option Int → Hp → Prop) (Q : Option Int → Prop), Sg K Z A0 A σ H ρ → T ρ Q → (∀ d H', Ex Z H H' → Q d → G d H') → t σ H G
def pNoPart : PO' := fun _ Q => Q none
def pPart (T : PE') : PO' := fun ρ Q => T ρ (iD fun i => Q (some i))
structure SimSl (K : PySem.W.Frag) (Z : Zc) (r : V → Option Int → Option Int → Hp → VK → Prop) (p : List Sl → Dt → Option Int → Option Int → (Dt → Prop) → Prop) : Prop where
  run : ∀ (A0 A : List Addr) (σ : L2.St) (ρ : List Sl) (H0 H : Hp) (x : V) (dx : Dt) (lo hi : Option Int) (G : VK) (Q : Dt → Prop), Sg K Z A0 A σ H0 ρ → Sg K Z A0 A σ H ρ → Rv K A σ ρ H0 H dx x → p ρ dx lo hi Q →
    (∀ d v H', Ex Z H H' → Rv K A σ ρ H H' d v → Q d → G v H') → r x lo hi H G
def pSl (p : List Sl → Dt → Option Int → Option Int → (Dt → Prop) → Prop) (T : PE') (U W : PO') : PE' := fun ρ Q => T ρ fun d => U ρ fun lo => W ρ fun hi => p ρ d lo hi Q
def pSlL : List Sl → Dt → Option Int → Option Int → (Dt → Prop) → Prop := fun ρ d lo hi Q => oD (asL ρ d) fun ds => Q (.fre (cutD ds lo hi))
def pSlT : List Sl → Dt → Option Int → Option Int → (Dt → Prop) → Prop := fun _ d lo hi Q => match d with
  | .tup ds => ¬ (HT.sIx ds.length 0 lo = 0 ∧ HT.sIx ds.length ds.length hi = ds.length) ∧ Q (.tup (cutD ds lo hi))
  | _ => False
def pSlS : List Sl → Dt → Option Int → Option Int → (Dt → Prop) → Prop := fun _ d lo hi Q => match d with
  | .str z => z.length ≤ sizeLine ∧ Q (.str (cutS z lo hi))
  | _ => False
section
variable {K : PySem.W.Frag} {Z : Zc} {t u : TE} {T U : PE'} {ta : TA} {Ta : PA'}
theorem s_i0 {g : Int → Int → V} {g' : Int → Int → Dt} (hg : ∀ i j A H, R K A H (g' i j) (g i j)) : Sim2 K Z (rI0 g) (p0I g') := ⟨fun A0 A σ ρ H0 H x y dx dy G Q s0 s r1 r2 h k => by
  unfold p0I at h
  split at h
  · rename_i i j
    exact ⟨i, j, r1.ii, r2.ii, k _ _ H (.rf s.g.pk) (.of (hg i j A H)) h⟩
  · exact False.elim h⟩
theorem s_iC {C : Int → Int → Prop} {g : Int → Int → V} {g' : Int → Int → Dt} (hg : ∀ i j A H, R K A H (g' i j) (g i j)) : Sim2 K Z (rI C g) (pCI C g') := ⟨fun A0 A σ ρ H0 H x y dx dy G Q s0 s r1 r2 h k => by
  unfold pCI at h
  split at h
  · rename_i i j
    exact ⟨i, j, r1.ii, r2.ii, h.1, k _ _ H (.rf s.g.pk) (.of (hg i j A H)) h.2⟩
  · exact False.elim h⟩
theorem s_iI {g : Int → Int → Int} : Sim2 K Z (rI0 fun i j => .int (g i j)) (p0I fun i j => .int (g i j)) := s_i0 fun _ _ _ _ => .i _
theorem s_iB {g : Int → Int → Bool} : Sim2 K Z (rI0 fun i j => .bl (g i j)) (p0I fun i j => .bl (g i j)) := s_i0 fun _ _ _ _ => .b _
theorem s_cI {C : Int → Int → Prop} {g : Int → Int → Int} : Sim2 K Z (rI C fun i j => .int (g i j)) (pCI C fun i j => .int (g i j)) := s_iC fun _ _ _ _ => .i _
theorem s_eq : Sim2 K Z rEq (pEq fun b => b) := ⟨fun A0 A σ ρ H0 H x y dx dy G Q s0 s r1 r2 h k => by
  unfold pEq at h
  split at h
  · rename_i i j
    rw [r1.ii, r2.ii]
    refine ⟨rfl, k _ _ H (.rf s.g.pk) (.of (.b _)) ?_⟩
    have e : decide (V.int i = V.int j) = decide (i = j) := by simp
    rw [e]
    exact h
  · rename_i i j
    rw [r1.si, r2.si]
    refine ⟨rfl, k _ _ H (.rf s.g.pk) (.of (.b _)) ?_⟩
    have e : decide (V.str i = V.str j) = decide (i = j) := by simp
    rw [e]
    exact h
  · rename_i i j
    rw [r1.bi, r2.bi]
    refine ⟨rfl, k _ _ H (.rf s.g.pk) (.of (.b _)) ?_⟩
    have e : decide (V.bl i = V.bl j) = decide (i = j) := by simp
    rw [e]
    exact h
  · rw [r1.nin, r2.nin]
    exact ⟨rfl, k _ _ H (.rf s.g.pk) (.of (.b _)) h⟩
  · exact False.elim h⟩
theorem s_ne : Sim2 K Z rNe (pEq fun b => !b) := ⟨fun A0 A σ ρ H0 H x y dx dy G Q s0 s r1 r2 h k => by
  unfold pEq at h
  split at h
  · rename_i i j
    rw [r1.ii, r2.ii]
    refine ⟨rfl, k _ _ H (.rf s.g.pk) (.of (.b _)) ?_⟩
    have e : decide (V.int i = V.int j) = decide (i = j) := by simp
    rw [e]
    exact h
  · rename_i i j
    rw [r1.si, r2.si]
    refine ⟨rfl, k _ _ H (.rf s.g.pk) (.of (.b _)) ?_⟩
    have e : decide (V.str i = V.str j) = decide (i = j) := by simp
    rw [e]
    exact h
  · rename_i i j
    rw [r1.bi, r2.bi]
    refine ⟨rfl, k _ _ H (.rf s.g.pk) (.of (.b _)) ?_⟩
    have e : decide (V.bl i = V.bl j) = decide (i = j) := by simp
    rw [e]
    exact h
  · rw [r1.nin, r2.nin]
    exact ⟨rfl, k _ _ H (.rf s.g.pk) (.of (.b _)) h⟩
  · exact False.elim h⟩
theorem s_addS : Sim2 K Z (fun x y H Q => ∃ i j, x = .str i ∧ y = .str j ∧ i.length + j.length ≤ sizeLine ∧ Q (.str (i ++ j)) H) pAddS := ⟨fun A0 A σ ρ H0 H x y dx dy G Q s0 s r1 r2 h k => by
  unfold pAddS at h
  split at h
  · rename_i i j
    exact ⟨i, j, r1.si, r2.si, h.1, k _ _ H (.rf s.g.pk) (.of (.s _)) h.2⟩
  · exact False.elim h⟩
theorem s_cat : Sim2 K Z rCat pCat := ⟨fun A0 A σ ρ H0 H x y dx dy G Q s0 s r1 r2 h k => by
  obtain ⟨a, ea, h⟩ := oD_of h
  obtain ⟨b, eb, h⟩ := oD_of h
  obtain ⟨l, xs, rfl, h1, q1⟩ := asL_R s r1 ea
  obtain ⟨m, ys, rfl, h2, q2⟩ := asL_R s r2 eb
  refine ⟨l, m, xs, ys, rfl, rfl, h1, h2, by rw [q1.len, q2.len]; exact h.1, fun p hp => ?_⟩
  have xn := Ex.new (o := .lst (xs ++ ys)) s.g.pk hp
  exact k (.fre (a ++ b)) _ _ xn ⟨p, _, rfl, hp, upd_same, Rs.mv2 (s.g.mv xn) (.cons hp) _ _ (q1.app q2)⟩ h.2⟩
theorem s_catT : Sim2 K Z (rCatA K) pCatT := ⟨fun A0 A σ ρ H0 H x y dx dy G Q s0 s r1 r2 h k => by
  unfold pCatT at h
  split at h
  · rename_i a b
    obtain ⟨l, xs, rfl, h1, q1⟩ := r1.ti.ti
    obtain ⟨m, ys, rfl, h2, q2⟩ := r2.ti.ti
    refine ⟨l, m, xs, ys, rfl, rfl, .inl (.inl h1), .inl (.inl h2), by rw [q1.len, q2.len]; exact h.1, fun e => ?_, fun n e => ?_, fun n1 n2 p hp => ?_⟩
    · subst e
      have ea : a = [] := by
        have := q1.len
        cases a with
        | nil => rfl
        | cons _ _ => simp at this
      subst ea
      exact k (.tup b) _ _ (.rf s.g.pk) r2 h.2
    · subst e
      have eb : b = [] := by
        have := q2.len
        cases b with
        | nil => rfl
        | cons _ _ => simp at this
      subst eb
      have h2 := h.2
      rw [List.append_nil] at h2
      exact k (.tup a) _ _ (.rf s.g.pk) r1 h2
    · have xn := Ex.new (o := .tup (xs ++ ys)) s.g.pk hp
      exact k (.tup (a ++ b)) _ _ xn (.of (.t upd_same (Rs.mv (s.g.mv xn) _ _ (q1.app q2)))) h.2
  · exact False.elim h⟩
theorem s_inS : Sim2 K Z rInS (pInS fun b => b) := ⟨fun A0 A σ ρ H0 H x y dx dy G Q s0 s r1 r2 h k => by
  obtain ⟨c, z, rfl, rfl, q⟩ := h
  exact ⟨c, z, r1.si, r2.si, k _ _ H (.rf s.g.pk) (.of (.b _)) q⟩⟩
theorem s_ninS : Sim2 K Z rNotInS (pInS fun b => !b) := ⟨fun A0 A σ ρ H0 H x y dx dy G Q s0 s r1 r2 h k => by
  obtain ⟨c, z, rfl, rfl, q⟩ := h
  exact ⟨c, z, r1.si, r2.si, k _ _ H (.rf s.g.pk) (.of (.b _)) q⟩⟩
theorem atI_Rs {A : List Addr} {H : Hp} {ds : List Dt} {xs : List V} {i : Int} {d : Dt} (r : Rs K A H ds xs) (h : atI ds i = some d) : ∃ v, atI xs i = some v ∧ R K A H d v := by
  unfold atI at h ⊢
  cases e : ixN ds.length i with
  | none =>
    rw [e] at h
    cases h
  | some j =>
    rw [e] at h
    have h' : ds[j]? = some d := h
    obtain ⟨v, h1, h2⟩ := r.at_ h'
    rw [r.len, e]
    exact ⟨v, h1, h2⟩
theorem s_ixL : Sim2 K Z (rIxL K) pIxL := ⟨fun A0 A σ ρ H0 H x y dx dy G Q s0 s r1 r2 h k => by
  obtain ⟨ds, ea, h⟩ := oD_of h
  cases dy with
  | int i =>
    obtain ⟨d, e, q⟩ := oD_of h
    obtain ⟨a, xs, rfl, h1, h2⟩ := asL_R s r1 ea
    obtain ⟨v, h3, h4⟩ := atI_Rs h2 e
    exact ⟨a, xs, i, v, rfl, r2.ii, .inl (.inl h1), h3, k d v H (.rf s.g.pk) (.of h4) q⟩
  | _ => exact False.elim h⟩
theorem s_ixT : Sim2 K Z (rIxT K) pIxT := ⟨fun A0 A σ ρ H0 H x y dx dy G Q s0 s r1 r2 h k => by
  unfold pIxT at h
  split at h
  · rename_i ds i
    obtain ⟨d, e, q⟩ := oD_of h
    obtain ⟨a, xs, rfl, h1, h2⟩ := r1.ti.ti
    obtain ⟨v, h3, h4⟩ := atI_Rs h2 e
    exact ⟨a, xs, i, v, rfl, r2.ii, .inl (.inl h1), h3, k d v H (.rf s.g.pk) (.of h4) q⟩
  · exact False.elim h⟩
theorem s_ixS : Sim2 K Z rIxS pIxS := ⟨fun A0 A σ ρ H0 H x y dx dy G Q s0 s r1 r2 h k => by
  unfold pIxS at h
  split at h
  · rename_i z i
    obtain ⟨c, e, q⟩ := oD_of h.2
    exact ⟨z, i, c, r1.si, r2.ii, h.1, e, k (sgn c) _ H (.rf s.g.pk) (.of (.s _)) q⟩
  · exact False.elim h⟩
theorem s_neg : Sim1 K Z (rU fun i => .int (-i)) pNeg := ⟨fun A0 A σ ρ H0 H x dx G Q s0 s r1 h k => by
  unfold pNeg at h
  split at h
  · rename_i i
    exact ⟨i, r1.ii, k _ _ H (.rf s.g.pk) (.of (.i _)) h⟩
  · exact False.elim h⟩
theorem s_noPart : SimO K Z tNoPart pNoPart := ⟨fun A0 A σ ρ H G Q s h k => k none H (.rf s.g.pk) h⟩
theorem s_part (h1 : SimE K Z t T) : SimO K Z (tPart t) (pPart T) := ⟨fun A0 A σ ρ H G Q s h k => h1.run A0 A σ ρ H _ _ s h fun d v H1 x1 r1 q1 => by
  obtain ⟨i, rfl, q⟩ := iD_of q1
  exact ⟨i, r1.ii, k (some i) H1 x1 q⟩⟩
theorem s_sl {r : V → Option Int → Option Int → Hp → VK → Prop} {p : List Sl → Dt → Option Int → Option Int → (Dt → Prop) → Prop} {tl th : TO} {Tl Th : PO'} (hr : SimSl K Z r p) (h1 : SimE K Z t T) (h2 : SimO K Z tl Tl) (h3 : SimO K Z th Th) :
    SimE K Z (tSl r t tl th) (pSl p T Tl Th) := ⟨fun A0 A σ ρ H G Q s h k => by
  refine h1.run A0 A σ ρ H _ _ s h fun d v H1 x1 r1 q1 => ?_
  have s1 := s.ex x1
  refine h2.run A0 A σ ρ H1 _ _ s1 q1 fun lo H2 x2 q2 => ?_
  have s2 := s1.ex x2
  refine h3.run A0 A σ ρ H2 _ _ s2 q2 fun hi H3 x3 q3 => ?_
  have x23 := x2.tr x3
  exact hr.run A0 A σ ρ H H3 v d lo hi G Q s (s2.ex x3) (r1.ex s x1 x23) q3 fun f z H4 x4 r4 q4 => k f z H4 (x1.tr (x23.tr x4)) (r4.pre s.g.pk (x1.tr x23)) q4⟩
theorem cutD_Rs {A : List Addr} {H : Hp} {ds : List Dt} {xs : List V} {lo hi : Option Int} (r : Rs K A H ds xs) : Rs K A H (cutD ds lo hi) (cutV xs lo hi) := by
  unfold cutD cutV
  rw [r.len]
  exact (r.dr _).tk _
theorem s_slL : SimSl K Z (rSlL K) pSlL := ⟨fun A0 A σ ρ H0 H x dx lo hi G Q s0 s r1 h k => by
  obtain ⟨ds, e, q⟩ := oD_of h
  obtain ⟨a, xs, rfl, h1, h2⟩ := asL_R s r1 e
  refine ⟨a, xs, rfl, .inl (.inl h1), fun p hp => ?_⟩
  have xn := Ex.new (o := .lst (cutV xs lo hi)) s.g.pk hp
  exact k (.fre (cutD ds lo hi)) _ _ xn ⟨p, _, rfl, hp, upd_same, Rs.mv2 (s.g.mv xn) (.cons hp) _ _ (cutD_Rs h2)⟩ q⟩
theorem s_slT : SimSl K Z (rSlT K) pSlT := ⟨fun A0 A σ ρ H0 H x dx lo hi G Q s0 s r1 h k => by
  unfold pSlT at h
  split at h
  · rename_i ds
    obtain ⟨a, xs, rfl, h1, h2⟩ := r1.ti.ti
    refine ⟨a, xs, rfl, .inl (.inl h1), by rw [h2.len]; exact h.1, fun p hp => ?_⟩
    have xn := Ex.new (o := .tup (cutV xs lo hi)) s.g.pk hp
    exact k (.tup (cutD ds lo hi)) _ _ xn (.of (.t upd_same (Rs.mv (s.g.mv xn) _ _ (cutD_Rs h2)))) h.2
  · exact False.elim h⟩
theorem s_slS : SimSl K Z rSlS pSlS := ⟨fun A0 A σ ρ H0 H x dx lo hi G Q s0 s r1 h k => by
  unfold pSlS at h
  split at h
  · rename_i z
    exact ⟨z, r1.si, h.1, k _ _ H (.rf s.g.pk) (.of (.s _)) h.2⟩
  · exact False.elim h⟩
end
/-! built-ins -/
def qLen : PL' := fun ρ xs Q => match xs with
  | [.str z] => z.length ≤ sizeLine ∧ Q (.int (z.length : Nat))
  | [.tup ds] => Q (.int (ds.length : Nat))
  | [d] => oD (asL ρ d) fun ds => Q (.int (ds.length : Nat))
  | _ => False
def qInt : PL' := fun _ xs Q => match xs with
  | [.int i] => Q (.int i)
  | [.bl b] => Q (.int (if b then 1 else 0))
  | _ => False
def qAbs : PL' := fun _ xs Q => match xs with
  | [.int i] => Q (.int (if i < 0 then -i else i))
  | _ => False
def qMax : PL' := fun _ xs Q => match xs with
  | [.int i, .int j] => Q (.int (if j > i then j else i))
  | _ => False
def qMin : PL' := fun _ xs Q => match xs with
  | [.int i, .int j] => Q (.int (if j < i then j else i))
  | _ => False
def qStrI : PL' := fun _ xs Q => match xs with
  | [.int i] => i.natAbs.log2 < 1920 ∧ Q (.str (toString i))
  | _ => False
def tyD : Dt → Option Value
  | .non => some (.type "NoneType")
  | .bl _ => some (.type "bool")
  | .int _ => some (.type "int")
  | .str _ => some (.type "str")
  | .lst _ => some (.type "list")
  | .fre _ => some (.type "list")
  | .tup _ => some (.type "tuple")
  | _ => none
def clD : Dt → Option Value
  | .raw (.ty n) => some (.type n)
  | .raw (.ref C) => some (.ref C)
  | _ => none
def qIsi (K : PySem.W.Frag) : PL' := fun _ xs Q => match xs with
  | [x, c] => oD (tyD x) fun t => oD (clD c) fun u => oD (PySem.W.kitOne K t u) fun b => Q (.bl b)
  | _ => False
def allI : List Dt → Option (List Int)
  | [] => some []
  | .int i :: ds => (allI ds).map (i :: ·)
  | _ => none
def allS : List Dt → Option (List Str)
  | [] => some []
  | .str x :: ds => (allS ds).map (x :: ·)
  | _ => none
def allB : List Dt → Option (List Bool)
  | [] => some []
  | .bl x :: ds => (allB ds).map (x :: ·)
  | _ => none
def qSum : PL' := fun ρ xs Q => match xs with
  | [d] => oD (asL ρ d) fun ds => oD (allI ds) fun ns => Q (.int ns.sum)
  | _ => False
def qAll : PL' := fun ρ xs Q => match xs with
  | [d] => oD (asL ρ d) fun ds => oD (allB ds) fun bs => Q (.bl (bs.all id))
  | _ => False
def qAny : PL' := fun ρ xs Q => match xs with
  | [d] => oD (asL ρ d) fun ds => oD (allB ds) fun bs => Q (.bl (bs.any id))
  | _ => False
def qSortS : PL' := fun ρ xs Q => match xs with
  | [d] => oD (asL ρ d) fun ds => oD (allS ds) fun ns => ns.length < 64 ∧ ∀ ys : List Str, ys.Perm ns → sortedS ys = true → Q (.fre (ys.map .str))
  | _ => False
def qSortI : PL' := fun ρ xs Q => match xs with
  | [d] => oD (asL ρ d) fun ds => oD (allI ds) fun ns => ns.length < 64 ∧ ∀ ys : List Int, ys.Perm ns → ys.Pairwise (· ≤ ·) → Q (.fre (ys.map .int))
  | _ => False
def qList : PL' := fun ρ xs Q => match xs with
  | [.tup ds] => Q (.fre ds)
  | [d] => oD (asL ρ d) fun ds => Q (.fre ds)
  | _ => False
def qTup : P1' := fun ρ d Q => match d with
  | .tup ds => Q (.tup ds)
  | d => oD (asL ρ d) fun ds => Q (.tup ds)
section
variable {K : PySem.W.Frag} {Z : Zc} {t u : TE} {T U : PE'} {ta : TA} {Ta : PA'} {A : List Addr} {H H0 : Hp} {σ : L2.St} {ρ : List Sl}
theorem Rvs.one {d : Dt} {vs : List V} (h : Rvs K A σ ρ H0 H [d] vs) : ∃ v, vs = [v] ∧ Rv K A σ ρ H0 H d v := by
  obtain ⟨v, r, rfl, h1, h2⟩ := h
  cases h2
  exact ⟨v, rfl, h1⟩
theorem Rvs.two {d e : Dt} {vs : List V} (h : Rvs K A σ ρ H0 H [d, e] vs) : ∃ v w, vs = [v, w] ∧ Rv K A σ ρ H0 H d v ∧ Rv K A σ ρ H0 H e w := by
  obtain ⟨v, r, rfl, h1, h2⟩ := h
  obtain ⟨w, rfl, h3⟩ := h2.one
  exact ⟨v, w, rfl, h1, h3⟩
theorem allI_Rs : ∀ {ds : List Dt} {ns : List Int} {xs : List V}, Rs K A H ds xs → allI ds = some ns → xs = ns.map V.int
  | [], ns, xs, r, e => by
    cases e
    exact r.ni
  | d :: ds, ns, xs, r, e => by
    obtain ⟨x, r', rfl, h1, h2⟩ := r.ci
    cases d with
    | int i =>
      simp only [allI, Option.map_eq_some_iff] at e
      obtain ⟨ms, e1, rfl⟩ := e
      rw [h1.ii, allI_Rs h2 e1]
      rfl
    | _ => cases e
theorem allS_Rs : ∀ {ds : List Dt} {ns : List Str} {xs : List V}, Rs K A H ds xs → allS ds = some ns → xs = ns.map V.str
  | [], ns, xs, r, e => by
    cases e
    exact r.ni
  | d :: ds, ns, xs, r, e => by
    obtain ⟨x, r', rfl, h1, h2⟩ := r.ci
    cases d with
    | str i =>
      simp only [allS, Option.map_eq_some_iff] at e
      obtain ⟨ms, e1, rfl⟩ := e
      rw [h1.si, allS_Rs h2 e1]
      rfl
    | _ => cases e
theorem allB_Rs : ∀ {ds : List Dt} {ns : List Bool} {xs : List V}, Rs K A H ds xs → allB ds = some ns → xs = ns.map V.bl
  | [], ns, xs, r, e => by
    cases e
    exact r.ni
  | d :: ds, ns, xs, r, e => by
    obtain ⟨x, r', rfl, h1, h2⟩ := r.ci
    cases d with
    | bl i =>
      simp only [allB, Option.map_eq_some_iff] at e
      obtain ⟨ms, e1, rfl⟩ := e
      rw [h1.bi, allB_Rs h2 e1]
      rfl
    | _ => cases e
theorem Rs.strs : ∀ {ys : List Str}, Rs K A H (ys.map .str) (ys.map V.str)
  | [] => .n
  | y :: ys => .c (.s y) Rs.strs
theorem Rs.ints : ∀ {ys : List Int}, Rs K A H (ys.map .int) (ys.map V.int)
  | [] => .n
  | y :: ys => .c (.i y) Rs.ints
theorem q_len : SimL K Z (fun xs H Q => ∃ x n, xs = [x] ∧ LenV K x H n ∧ Q (.int n) H) qLen := ⟨fun A0 A σ ρ H0 H xs ds G Q s0 s r h k => by
  unfold qLen at h
  split at h
  · rename_i z
    obtain ⟨v, rfl, r1⟩ := r.one
    exact ⟨v, z.length, rfl, by rw [r1.si]; exact ⟨h.1, rfl⟩, k _ _ H (.rf s.g.pk) (.of (.i _)) h.2⟩
  · rename_i es
    obtain ⟨v, rfl, r1⟩ := r.one
    obtain ⟨a, xs, rfl, h1, h2⟩ := r1.ti.ti
    exact ⟨_, es.length, rfl, .inr ⟨xs, .inl (.inl h1), h2.len.symm⟩, k _ _ H (.rf s.g.pk) (.of (.i _)) h⟩
  · rename_i d _ _
    obtain ⟨v, rfl, r1⟩ := r.one
    obtain ⟨es, e, q⟩ := oD_of h
    obtain ⟨a, xs, rfl, h1, h2⟩ := asL_R s r1 e
    exact ⟨_, es.length, rfl, .inl ⟨xs, .inl (.inl h1), h2.len.symm⟩, k _ _ H (.rf s.g.pk) (.of (.i _)) q⟩
  · exact False.elim h⟩
theorem q_int : SimL K Z (fun xs H Q => (∃ i, xs = [.int i] ∧ Q (.int i) H) ∨ ∃ k, xs = [.bl k] ∧ Q (.int (if k then 1 else 0)) H) qInt := ⟨fun A0 A σ ρ H0 H xs ds G Q s0 s r h k => by
  unfold qInt at h
  split at h
  · rename_i i
    obtain ⟨v, rfl, r1⟩ := r.one
    exact .inl ⟨i, by rw [r1.ii], k _ _ H (.rf s.g.pk) (.of (.i _)) h⟩
  · rename_i b
    obtain ⟨v, rfl, r1⟩ := r.one
    exact .inr ⟨b, by rw [r1.bi], k _ _ H (.rf s.g.pk) (.of (.i _)) h⟩
  · exact False.elim h⟩
theorem q_abs : SimL K Z (fun xs H Q => ∃ i, xs = [.int i] ∧ Q (.int (if i < 0 then -i else i)) H) qAbs := ⟨fun A0 A σ ρ H0 H xs ds G Q s0 s r h k => by
  unfold qAbs at h
  split at h
  · rename_i i
    obtain ⟨v, rfl, r1⟩ := r.one
    exact ⟨i, by rw [r1.ii], k _ _ H (.rf s.g.pk) (.of (.i _)) h⟩
  · exact False.elim h⟩
theorem q_max : SimL K Z (fun xs H Q => ∃ i j, xs = [.int i, .int j] ∧ Q (.int (if j > i then j else i)) H) qMax := ⟨fun A0 A σ ρ H0 H xs ds G Q s0 s r h k => by
  unfold qMax at h
  split at h
  · rename_i i j
    obtain ⟨v, w, rfl, r1, r2⟩ := r.two
    exact ⟨i, j, by rw [r1.ii, r2.ii], k _ _ H (.rf s.g.pk) (.of (.i _)) h⟩
  · exact False.elim h⟩
theorem q_min : SimL K Z (fun xs H Q => ∃ i j, xs = [.int i, .int j] ∧ Q (.int (if j < i then j else i)) H) qMin := ⟨fun A0 A σ ρ H0 H xs ds G Q s0 s r h k => by
  unfold qMin at h
  split at h
  · rename_i i j
    obtain ⟨v, w, rfl, r1, r2⟩ := r.two
    exact ⟨i, j, by rw [r1.ii, r2.ii], k _ _ H (.rf s.g.pk) (.of (.i _)) h⟩
  · exact False.elim h⟩
theorem q_strI : SimL K Z (fun xs H Q => ∃ i, xs = [.int i] ∧ i.natAbs.log2 < 1920 ∧ Q (.str (toString i)) H) qStrI := ⟨fun A0 A σ ρ H0 H xs ds G Q s0 s r h k => by
  unfold qStrI at h
  split at h
  · rename_i i
    obtain ⟨v, rfl, r1⟩ := r.one
    exact ⟨i, by rw [r1.ii], h.1, k _ _ H (.rf s.g.pk) (.of (.s _)) h.2⟩
  · exact False.elim h⟩
theorem tyD_R (s : Sg K Z A0 A σ H ρ) {d : Dt} {v : V} {t : Value} (h : Rv K A σ ρ H0 H d v) (e : tyD d = some t) : TyX K H v t := by
  cases d with
  | non => cases e; rw [h.nin]; exact .base .non
  | bl b => cases e; rw [h.bi]; exact .base (.bl b)
  | int b => cases e; rw [h.ii]; exact .base (.int b)
  | str b => cases e; rw [h.si]; exact .base (.str b)
  | lst ds =>
    cases e
    obtain ⟨a, xs, rfl, h1, _⟩ := asL_R s (ds := ds) h rfl
    exact .base (.lst h1)
  | fre ds =>
    cases e
    obtain ⟨a, xs, rfl, h1, _⟩ := asL_R s (ds := ds) h rfl
    exact .base (.lst h1)
  | tup ds =>
    cases e
    obtain ⟨a, xs, rfl, h1, _⟩ := h.ti.ti
    exact .base (.tup h1)
  | _ => cases e
theorem q_isi : SimL K Z (rIsi K) (qIsi K) := ⟨fun A0 A σ ρ H0 H xs ds G Q s0 s r h k => by
  unfold qIsi at h
  split at h
  · rename_i x c
    obtain ⟨v, w, rfl, r1, r2⟩ := r.two
    obtain ⟨t, e1, h⟩ := oD_of h
    obtain ⟨u, e2, h⟩ := oD_of h
    obtain ⟨b, e3, h⟩ := oD_of h
    refine ⟨v, w, t, u, b, rfl, ?_, tyD_R s r1 e1, e3, k _ _ H (.rf s.g.pk) (.of (.b _)) h⟩
    cases c with
    | raw z =>
      rw [r2.wi]
      cases z with
      | ty n => cases e2; exact .ty n
      | ref C => cases e2; exact .own C
      | _ => cases e2
    | _ => cases e2
  · exact False.elim h⟩
theorem q_sum : SimL K Z (rSum K) qSum := ⟨fun A0 A σ ρ H0 H xs ds G Q s0 s r h k => by
  unfold qSum at h
  split at h
  · obtain ⟨v, rfl, r1⟩ := r.one
    obtain ⟨es, e, h⟩ := oD_of h
    obtain ⟨ns, e2, h⟩ := oD_of h
    obtain ⟨a, xs, rfl, h1, h2⟩ := asL_R s r1 e
    rw [allI_Rs h2 e2] at h1
    exact ⟨a, ns, rfl, .inl (.inl h1), k _ _ H (.rf s.g.pk) (.of (.i _)) h⟩
  · exact False.elim h⟩
theorem q_all : SimL K Z (rAll K) qAll := ⟨fun A0 A σ ρ H0 H xs ds G Q s0 s r h k => by
  unfold qAll at h
  split at h
  · obtain ⟨v, rfl, r1⟩ := r.one
    obtain ⟨es, e, h⟩ := oD_of h
    obtain ⟨ns, e2, h⟩ := oD_of h
    obtain ⟨a, xs, rfl, h1, h2⟩ := asL_R s r1 e
    rw [allB_Rs h2 e2] at h1
    exact ⟨a, ns, rfl, .inl (.inl h1), k _ _ H (.rf s.g.pk) (.of (.b _)) h⟩
  · exact False.elim h⟩
theorem q_any : SimL K Z (rAny K) qAny := ⟨fun A0 A σ ρ H0 H xs ds G Q s0 s r h k => by
  unfold qAny at h
  split at h
  · obtain ⟨v, rfl, r1⟩ := r.one
    obtain ⟨es, e, h⟩ := oD_of h
    obtain ⟨ns, e2, h⟩ := oD_of h
    obtain ⟨a, xs, rfl, h1, h2⟩ := asL_R s r1 e
    rw [allB_Rs h2 e2] at h1
    exact ⟨a, ns, rfl, .inl (.inl h1), k _ _ H (.rf s.g.pk) (.of (.b _)) h⟩
  · exact False.elim h⟩
theorem q_sortS : SimL K Z (rSortedS K) qSortS := ⟨fun A0 A σ ρ H0 H xs ds G Q s0 s r h k => by
  unfold qSortS at h
  split at h
  · obtain ⟨v, rfl, r1⟩ := r.one
    obtain ⟨es, e, h⟩ := oD_of h
    obtain ⟨ns, e2, h⟩ := oD_of h
    obtain ⟨a, xs, rfl, h1, h2⟩ := asL_R s r1 e
    rw [allS_Rs h2 e2] at h1
    refine ⟨a, ns, rfl, .inl (.inl h1), h.1, fun ys p hy hs hp => ?_⟩
    have xn := Ex.new (o := .lst (ys.map V.str)) s.g.pk hp
    exact k (.fre (ys.map .str)) _ _ xn ⟨p, _, rfl, hp, upd_same, .strs⟩ (h.2 ys hy hs)
  · exact False.elim h⟩
theorem q_sortI : SimL K Z (rSorted K) qSortI := ⟨fun A0 A σ ρ H0 H xs ds G Q s0 s r h k => by
  unfold qSortI at h
  split at h
  · obtain ⟨v, rfl, r1⟩ := r.one
    obtain ⟨es, e, h⟩ := oD_of h
    obtain ⟨ns, e2, h⟩ := oD_of h
    obtain ⟨a, xs, rfl, h1, h2⟩ := asL_R s r1 e
    rw [allI_Rs h2 e2] at h1
    refine ⟨a, ns, rfl, .inl (.inl h1), h.1, fun ys p hy hs hp => ?_⟩
    have xn := Ex.new (o := .lst (ys.map V.int)) s.g.pk hp
    exact k (.fre (ys.map .int)) _ _ xn ⟨p, _, rfl, hp, upd_same, .ints⟩ (h.2 ys hy hs)
  · exact False.elim h⟩
theorem q_list : SimL K Z (fun xs H Q => ∃ p ys, xs = [.ref p] ∧ (SqL K H p ys ∨ SqT K H p ys) ∧ ∀ l, H l = none → Q (.ref l) (upd H l (.lst ys))) qList := ⟨fun A0 A σ ρ H0 H xs ds G Q s0 s r h k => by
  unfold qList at h
  split at h
  · rename_i es
    obtain ⟨v, rfl, r1⟩ := r.one
    obtain ⟨a, ys, rfl, h1, h2⟩ := r1.ti.ti
    refine ⟨a, ys, rfl, .inr (.inl (.inl h1)), fun p hp => ?_⟩
    have xn := Ex.new (o := .lst ys) s.g.pk hp
    exact k (.fre es) _ _ xn ⟨p, _, rfl, hp, upd_same, Rs.mv2 (s.g.mv xn) (.cons hp) _ _ h2⟩ h
  · obtain ⟨v, rfl, r1⟩ := r.one
    obtain ⟨es, e, q⟩ := oD_of h
    obtain ⟨a, ys, rfl, h1, h2⟩ := asL_R s r1 e
    refine ⟨a, ys, rfl, .inl (.inl (.inl h1)), fun p hp => ?_⟩
    have xn := Ex.new (o := .lst ys) s.g.pk hp
    exact k (.fre es) _ _ xn ⟨p, _, rfl, hp, upd_same, Rs.mv2 (s.g.mv xn) (.cons hp) _ _ h2⟩ q
  · exact False.elim h⟩
theorem q_tup : Sim1 K Z (kTup K) qTup := ⟨fun A0 A σ ρ H0 H x dx G Q s0 s r1 h k => by
  unfold qTup at h
  split at h
  · rename_i es
    obtain ⟨a, ys, rfl, h1, h2⟩ := r1.ti.ti
    exact .inr ⟨a, ys, rfl, .inl (.inl h1), k (.tup es) _ H (.rf s.g.pk) r1 h⟩
  · obtain ⟨es, e, q⟩ := oD_of h
    obtain ⟨a, ys, rfl, h1, h2⟩ := asL_R s r1 e
    refine .inl ⟨a, ys, rfl, .inl (.inl h1), fun p hp => ?_⟩
    have xn := Ex.new (o := .tup ys) s.g.pk hp
    exact k (.tup es) _ _ xn (.of (.t upd_same (Rs.mv (s.g.mv xn) _ _ h2))) q⟩
def pThen (T : PE') (p : P1') : PE' := fun ρ Q => T ρ fun x => p ρ x Q
theorem s_then {r : V → Hp → VK → Prop} {p : P1'} (hr : Sim1 K Z r p) (h1 : SimE K Z t T) : SimE K Z (tThen t r) (pThen T p) := ⟨fun A0 A σ ρ H G Q s h k => by
  refine h1.run A0 A σ ρ H _ _ s h fun d v H1 x1 r1 q1 => ?_
  exact hr.run A0 A σ ρ H H1 v d G Q s (s.ex x1) r1 q1 fun f z H3 x3 r3 q3 => k f z H3 (x1.tr x3) (r3.pre s.g.pk x1) q3⟩
end
end Pv

set_option maxRecDepth 100000
set_option maxHeartbeats 4000000
namespace Pv
open PySem PySem.Spec PyProof.Rows L2 Xv
/-! ### defs and their calls -/
abbrev PSp := List Dt → (Dt → Prop) → Prop
def spD (K : PySem.W.Frag) (Z : Zc) (S : PSp) : Sp := fun vs H Q _ => ∃ A ds Qd, Good Z A H ∧ Rs K A H ds vs ∧ S ds Qd ∧ ∀ d v H', Ex Z H H' → R K A H' d v → Qd d → Q v H'
/-- the slots at the entry -/
def rho (n : Nat) (ds : List Dt) : List Sl := ds.map .sh ++ List.replicate (n - ds.length) .un
section
variable {P : Program} {w : World} {K : PySem.W.Frag} {mg : Str → Option Value} {base : Heap} {Z : Zc} {A : List Addr} {H : Hp}
theorem er_start {N : List Str} {ds : List Dt} {vs : List V} (r : Rs K A H ds vs) : Er K A A (L2.start N vs) H (rho N.length ds) := by
  have hl := r.len
  have noown : ∀ (i : Nat) (es : List Dt), (rho N.length ds)[i]? ≠ some (.own es) := fun i es e => by
    unfold rho at e
    by_cases hi : i < ds.length
    · rw [List.getElem?_append_left (by simpa using hi), List.getElem?_map] at e
      cases q : ds[i]? with
      | none => rw [q] at e; cases e
      | some d => rw [q] at e; cases e
    · rw [List.getElem?_append_right (by simp; omega), List.getElem?_replicate] at e
      split at e <;> cases e
  refine ⟨?_, fun i d e => ?_, fun i es e => absurd e (noown i es), fun i j es fs a n e => absurd e (noown i es)⟩
  · unfold L2.start rho
    simp [hl]
  · unfold rho at e
    by_cases hi : i < ds.length
    · rw [List.getElem?_append_left (by simpa using hi), List.getElem?_map] at e
      cases q : ds[i]? with
      | none => rw [q] at e; cases e
      | some d' =>
        rw [q] at e
        cases e
        obtain ⟨v, h1, h2⟩ := r.at_ q
        refine ⟨v, ?_, h2⟩
        unfold L2.start
        rw [List.getElem?_append_left (by simp; omega), List.getElem?_map, h1]
        rfl
    · rw [List.getElem?_append_right (by simp; omega), List.getElem?_replicate] at e
      split at e <;> cases e
theorem sp_len {S : PSp} {n : Nat} (hl : ∀ ds Q, S ds Q → ds.length = n) (vs : List V) (H : Hp) (Q : VK) (E : XK) (h : spD K Z S vs H Q E) : vs.length = n := by
  obtain ⟨A, ds, Qd, g, r, s, k⟩ := h
  rw [r.len]
  exact hl ds Qd s
theorem body_D {N : List Str} {S : PSp} {t : TS} {T : PS'} (ht : SimS K Z t T) (hp : ∀ ds Q, S ds Q → T { nx := fun _ => Q .non, rt := Q } (rho N.length ds)) {vs : List V} {Q : VK} {E : XK} (h : spD K Z S vs H Q E) :
    t { nx := fun _ H' => Q .non H', rt := Q } (L2.start N vs) H := by
  obtain ⟨A, ds, Qd, g, r, s, k⟩ := h
  refine ht.run A A (L2.start N vs) (rho N.length ds) H _ { nx := fun _ => Qd .non, rt := Qd } ⟨g, er_start r, g.pA, fun b hb => hb⟩ (hp ds Qd s) ⟨fun A' σ' ρ' H' s' w' q => ?_, fun A' σ' ρ' H' s' w' q => False.elim q, fun A' σ' ρ' H' s' w' q => False.elim q, fun A' H' d v w' r' q => ?_⟩
  · exact k .non .non H' ⟨fun b o n e => w'.kp b o (fun hb => ⟨hb, n⟩) e, w'.pk⟩ .n q
  · exact k d v H' ⟨fun b o n e => w'.kp b o (fun hb => ⟨hb, n⟩) e, w'.pk⟩ r' q
theorem ok_D {x qual : Str} {st : Stmt} {f : Addr} {fd : FuncData} {N ps : List Str} {k : Nat} {S : PSp} (F : Fun K x qual st f fd) (Sc : FnScope N ps (defScope st)) (hl : ∀ ds Q, S ds Q → ds.length = ps.length)
    (hb : ∀ (cdv : Value) (A : Around) (outer : List Env) (s : Shared) (H : Hp) (E : XK), Room k (A.deeper (envOfC qual (defScope st) s.heap.objs.size f cdv)) →
      ∃ t T, PSs (cxOf CX0 P w K mg base N qual (defScope st) f cdv A outer s H E).nox (defBody st) t ∧ SimS K Z t T ∧ ∀ ds Q, S ds Q → T { nx := fun _ => Q .non, rt := Q } (rho N.length ds)) :
    FnOk P w K mg base CX0 (k + 1) f fd ps (spD K Z S) := by
  refine F.ok Sc (sp_len hl) fun cdv A outer s H vs Q E hr h => ?_
  obtain ⟨t, T, h1, h2, h3⟩ := hb cdv A outer s H E hr
  exact ⟨t, h1, body_D h2 h3 h⟩
theorem ok_DG {x qual : Str} {st : Stmt} {f : Addr} {fd : FuncData} {N ps : List Str} {k : Nat} {S : PSp} (F : Fun K x qual st f fd) (Sc : FnScope N ps (defScope st)) (hl : ∀ ds Q, S ds Q → ds.length = ps.length)
    (hb : ∀ (cdv : Value) (A : Around) (outer : List Env) (s : Shared) (H : Hp) (E : XK), (A.deeper (envOfC qual (defScope st) s.heap.objs.size f cdv)).guards = some [] → Room k (A.deeper (envOfC qual (defScope st) s.heap.objs.size f cdv)) →
      ∃ t T, PSs (cxOf CX0 P w K mg base N qual (defScope st) f cdv A outer s H E).nox (defBody st) t ∧ SimS K Z t T ∧ ∀ ds Q, S ds Q → T { nx := fun _ => Q .non, rt := Q } (rho N.length ds)) :
    FnG P w K mg base CX0 (k + 1) f fd ps (spD K Z S) := by
  refine okG F Sc (sp_len hl) fun cdv A outer s H vs Q E hg hr h => ?_
  obtain ⟨t, T, h1, h2, h3⟩ := hb cdv A outer s H E hg hr
  exact ⟨t, h1, body_D h2 h3 h⟩
end
/-- a def as the module has it, and its promise -/
structure Has (P : Program) (w : World) (K : PySem.W.Frag) (mg : Str → Option Value) (base : Heap) (Z : Zc) (x : Str) (k : Nat) (ps : List Str) (S : PSp) : Prop where
  ex : ∃ (f : Addr) (fd : FuncData), mg x = some (.ref f) ∧ PySem.W.keepIn K (.ref f) = true ∧ Binds K fd ps [] ∧ FnOk P w K mg base CX0 k f fd ps (spD K Z S)
def pCall (S : PSp) (es : List Dt) (T : PA') : PE' := fun ρ Q => T ρ fun ds => oD (cls ds) fun fs => S (fs ++ es) Q
def qFn (S : PSp) (es : List Dt) : PL' := fun _ ds Q => oD (cls ds) fun fs => S (fs ++ es) Q
section
variable {K : PySem.W.Frag} {Z : Zc} {t u : TE} {T U : PE'} {ta tk : TA} {Ta Tk : PA'} {S : PSp} {dvs : List V} {es : List Dt}
theorem s_callD (hd : ∀ A H, Rs K A H es dvs) (h1 : SimA K Z ta Ta) : SimE K Z (tCall (spD K Z S) dvs E0 ta) (pCall S es Ta) := ⟨fun A0 A σ ρ H G Q s h k => h1.run A0 A σ ρ H _ _ s h fun ds vs H1 x1 r1 q1 => by
  obtain ⟨fs, e, q⟩ := oD_of q1
  have r := cls_R s.g r1 e
  exact ⟨A, fs ++ es, Q, (s.ex x1).g, r.app (hd A H1), q, fun d v H' x r' q' => k d v H' (x1.tr x) (.of r') q'⟩⟩
theorem s_call (h1 : SimA K Z ta Ta) : SimE K Z (tCall (spD K Z S) [] E0 ta) (pCall S [] Ta) := s_callD (fun _ _ => .n) h1
theorem q_fn : SimL K Z (fun vs H Q => spD K Z S (vs ++ []) H Q E0) (qFn S []) := ⟨fun A0 A σ ρ H0 H xs ds G Q s0 s r h k => by
  obtain ⟨fs, e, q⟩ := oD_of h
  have r := cls_R s0.g r e
  exact ⟨A, fs ++ [], Q, s.g, r.app .n, q, fun d v H' x r' q' => k d v H' x (.of r') q'⟩⟩
end
/-! f(k = v, ..) -/
def tKw (sp : Sp) (m : Nat) (gV : List V → List V → List V) (tk : TA) : TE := fun σ H Q => tk σ H fun zs H1 => zs.length = m ∧ sp (gV [] zs) H1 Q E0
def pKw (S : PSp) (m : Nat) (gD : List Dt → List Dt) (T : PA') : PE' := fun ρ Q => T ρ fun ds => oD (cls ds) fun fs => fs.length = m ∧ S (gD fs) Q
section
variable {X : Cx} {k : Nat} {f : Addr} {fd : FuncData} {ps ks : List Str} {sp : Sp} {x : Str} {p pos : Pos} {kws : List Keyword} {tk : TA} {g : List Value → List Value → List Value} {gV : List V → List V → List V}
theorem pe_kw0 (F : FnOk X.prog X.w X.K X.mg X.base CX0 k f fd ps sp) (hr : Room k X.A) (hg : Gl X x) (hm : X.mg x = some (.ref f)) (hk : PySem.W.keepIn X.K (.ref f) = true) (hb : KBn X.K fd ps 0 ks g gV) (hkw : PK X kws tk)
    (hall : (backToKw pos (keywordEach kws X.env)).all (·.1.isSome) = true := by rfl) (hks : (backToKw pos (keywordEach kws X.env)).filterMap (·.1) = ks := by rfl) (hdb : (x == ("__debug__" : Str)) = false := by decide)
    (hpl : ((backTo pos (starEach [] X.env)).any (·.1) || (backToKw pos (keywordEach kws X.env)).any (·.1.isNone)) = false := by rfl) :
    PE X (.Call (.Name x p) [] kws pos) (tKw sp ks.length gV tk) := by
  refine ⟨fun pins s σ H Q I h => ?_⟩
  refine wpAny_Call_Name_kw (ld_glob I hg hm ?_ hdb)
  refine PySem.W.callWith_KW0 (h₀ := X.base) I.ok.mod.kin hk hall ?_ hpl
  refine thn (hkw.run pos pins s σ H _ I h) fun ws s2 ⟨zs, H2, I2, rz, l2, q2⟩ => ⟨I2.kIn, ?_⟩
  rw [hks]
  have r2 := hb.rel (vs := []) (us := []) .nil rz
  refine wpAny_call (codeAny_mono (F.run X.A X.stack s2 H2 ⟨[], ks.zip ws⟩ (g [] ws) (gV [] zs) Q E0 hr I2.env0 (hb.to s2 [] ws I2.kIn rfl (rz.length.symm.trans l2)) r2 q2) fun r s' hq => ?_)
  cases r with
  | error e => exact hq.elim
  | ok fl =>
    cases fl with
    | ret u => exact I2.after hq
    | next => exact False.elim hq
    | brk => exact False.elim hq
    | cont => exact False.elim hq
end
section
variable {K : PySem.W.Frag} {Z : Zc} {tk : TA} {Tk : PA'} {S : PSp} {m : Nat} {gV : List V → List V → List V} {gD : List Dt → List Dt}
theorem s_kw (hg : ∀ {A : List Addr} {H : Hp} {ds : List Dt} {vs : List V}, ds.length = m → Rs K A H ds vs → Rs K A H (gD ds) (gV [] vs)) (h1 : SimA K Z tk Tk) : SimE K Z (tKw (spD K Z S) m gV tk) (pKw S m gD Tk) := ⟨fun A0 A σ ρ H G Q s h k => h1.run A0 A σ ρ H _ _ s h fun ds vs H1 x1 r1 q1 => by
  obtain ⟨fs, e, hm, q⟩ := oD_of q1
  have r := cls_R s.g r1 e
  exact ⟨r.len.trans hm, A, gD fs, Q, (s.ex x1).g, hg hm r, q, fun d v H' x r' q' => k d v H' (x1.tr x) (.of r') q'⟩⟩
end
/-! ### methods of texts -/
structure SimM (K : PySem.W.Frag) (Z : Zc) (r : V → List V → Hp → VK → Prop) (p : Str → PL') : Prop where
  run : ∀ (A0 A : List Addr) (σ : L2.St) (ρ : List Sl) (H0 H : Hp) (z : Str) (xs : List V) (ds : List Dt) (G : VK) (Q : Dt → Prop), Sg K Z A0 A σ H0 ρ → Sg K Z A0 A σ H ρ → Rvs K A σ ρ H0 H ds xs → p z ρ ds Q →
    (∀ d v H', Ex Z H H' → Rv K A σ ρ H H' d v → Q d → G v H') → r (.str z) xs H G
def pBMs (p : Str → PL') (T : PE') (U : PA') : PE' := fun ρ Q => T ρ (sD fun z => U ρ fun ds => p z ρ ds Q)
def mJoin (a : Str) : PL' := fun ρ ds Q => match ds with
  | [d] => oD (asL ρ d) fun es => oD (allS es) fun ys => (ys.map (·.length)).sum + ys.length * a.length ≤ 16777216 ∧ Q (.str (Txt.join a ys))
  | _ => False
section
variable {K : PySem.W.Frag} {Z : Zc} {t : TE} {T : PE'} {ta : TA} {Ta : PA'}
theorem s_bms {r : V → List V → Hp → VK → Prop} {p : Str → PL'} (hr : SimM K Z r p) (h1 : SimE K Z t T) (h2 : SimA K Z ta Ta) : SimE K Z (tBM K "str" r t ta) (pBMs p T Ta) := ⟨fun A0 A σ ρ H G Q s h k => h1.run A0 A σ ρ H _ _ s h fun d v H1 x1 r1 q1 => by
  obtain ⟨z, rfl, q⟩ := sD_of q1
  have e := r1.si
  subst e
  refine ⟨rfl, ?_⟩
  refine h2.run A0 A σ ρ H1 _ _ (s.ex x1) q fun ds vs H2 x2 r2 q2 => ?_
  exact hr.run A0 A σ ρ H1 H2 z vs ds G Q (s.ex x1) ((s.ex x1).ex x2) r2 q2 fun f y H3 x3 r3 q3 => k f y H3 (x1.tr (x2.tr x3)) (r3.pre s.g.pk (x1.tr x2)) q3⟩
theorem m_join : SimM K Z (fun x xs H Q => ∃ a p, ∃ ys : List Str, x = .str a ∧ xs = [.ref p] ∧ (SqL K H p (ys.map V.str) ∨ SqT K H p (ys.map V.str)) ∧ (ys.map (·.length)).sum + ys.length * a.length ≤ 16777216 ∧ Q (.str (Txt.join a ys)) H) mJoin :=
  ⟨fun A0 A σ ρ H0 H z xs ds G Q s0 s r h k => by
    unfold mJoin at h
    split at h
    · obtain ⟨v, rfl, r1⟩ := r.one
      obtain ⟨es, e, h⟩ := oD_of h
      obtain ⟨ys, e2, h⟩ := oD_of h
      obtain ⟨a, xs, rfl, h1, h2⟩ := asL_R s r1 e
      rw [allS_Rs h2 e2] at h1
      exact ⟨z, a, ys, rfl, rfl, .inl (.inl (.inl h1)), h.1, k _ _ H (.rf s.g.pk) (.of (.s _)) h.2⟩
    · exact False.elim h⟩
end
/-! ### lists and tuples walked -/
section
variable {K : PySem.W.Frag} {Z : Zc} {t : TE} {T : PE'} {ta : TA} {Ta : PA'}
theorem ito_lst {A : List Addr} {H : Hp} {a : Addr} {xs : List V} {ds : List Dt} (n : a ∉ A) (h : H a = some (.lst xs)) (r : Rs K A H ds xs) : Ito K A (Itl K a) H ds := fun A' H2 m nw i => by
  have h2 : H2 a = some (.lst xs) := m.1 _ _ n h
  have r2 := Rs.mv2 m nw _ _ r
  refine ⟨fun hl => ⟨xs, .inl (.inl h2), by rw [r2.len, hl]; exact Nat.le_refl _⟩, fun d hd => ?_⟩
  obtain ⟨x, hx, rx⟩ := r2.at_ hd
  refine ⟨⟨xs, x, .inl (.inl h2), hx⟩, fun v H3 hy => ?_⟩
  obtain ⟨rfl, hv⟩ := hy
  have e := hv xs (.inl (.inl h2))
  rw [hx] at e
  cases e
  exact ⟨fun _ _ e => e, rx⟩
theorem ito_tup {A : List Addr} {H : Hp} {a : Addr} {xs : List V} {ds : List Dt} (h : H a = some (.tup xs)) (r : Rs K A H ds xs) : Ito K A (Itt K a) H ds := fun A' H2 m nw i => by
  have h2 : H2 a = some (.tup xs) := m.t h
  have r2 := Rs.mv2 m nw _ _ r
  refine ⟨fun hl => ⟨xs, .inl (.inl h2), by rw [r2.len, hl]; exact Nat.le_refl _⟩, fun d hd => ?_⟩
  obtain ⟨x, hx, rx⟩ := r2.at_ hd
  refine ⟨⟨xs, x, .inl (.inl h2), hx⟩, fun v H3 hy => ?_⟩
  obtain ⟨rfl, hv⟩ := hy
  have e := hv xs (.inl (.inl h2))
  rw [hx] at e
  cases e
  exact ⟨fun _ _ e => e, rx⟩
theorem s_iList (h1 : SimE K Z t T) : SimI K Z (iList K t) (piList T) := ⟨fun A0 A σ ρ H G Q s h k => h1.run A0 A σ ρ H _ _ s h fun d v H1 x1 r1 q1 => by
  obtain ⟨ds, e, q⟩ := lD_of q1
  obtain ⟨a, xs, rfl, n, h2, r2⟩ := (cl_R s.g r1 e).li
  exact ⟨a, rfl, ⟨xs, .inl (.inl h2)⟩, k _ ds H1 x1 (ito_lst n h2 r2) q⟩⟩
theorem s_iTup (h1 : SimE K Z t T) : SimI K Z (iTup K t) (piTup T) := ⟨fun A0 A σ ρ H G Q s h k => h1.run A0 A σ ρ H _ _ s h fun d v H1 x1 r1 q1 => by
  obtain ⟨ds, rfl, q⟩ := tD_of q1
  obtain ⟨a, xs, rfl, h2, r2⟩ := r1.ti.ti
  exact ⟨a, rfl, ⟨xs, .inl (.inl h2)⟩, k _ ds H1 x1 (ito_tup h2 r2) q⟩⟩
end
end Pv

set_option maxRecDepth 100000
set_option maxHeartbeats 4000000
namespace Pv
open PySem PySem.Spec PyProof.Rows L2 Xv
/-! ### relations by name -/
def zLen (K : PySem.W.Frag) : List V → Hp → VK → Prop := fun xs H Q => ∃ x n, xs = [x] ∧ LenV K x H n ∧ Q (.int n) H
def zInt : List V → Hp → VK → Prop := fun xs H Q => (∃ i, xs = [.int i] ∧ Q (.int i) H) ∨ ∃ k, xs = [.bl k] ∧ Q (.int (if k then 1 else 0)) H
def zAbs : List V → Hp → VK → Prop := fun xs H Q => ∃ i, xs = [.int i] ∧ Q (.int (if i < 0 then -i else i)) H
def zMax : List V → Hp → VK → Prop := fun xs H Q => ∃ i j, xs = [.int i, .int j] ∧ Q (.int (if j > i then j else i)) H
def zMin : List V → Hp → VK → Prop := fun xs H Q => ∃ i j, xs = [.int i, .int j] ∧ Q (.int (if j < i then j else i)) H
def zStrI : List V → Hp → VK → Prop := fun xs H Q => ∃ i, xs = [.int i] ∧ i.natAbs.log2 < 1920 ∧ Q (.str (toString i)) H
def zList (K : PySem.W.Frag) : List V → Hp → VK → Prop := fun xs H Q => ∃ p ys, xs = [.ref p] ∧ (SqL K H p ys ∨ SqT K H p ys) ∧ ∀ l, H l = none → Q (.ref l) (upd H l (.lst ys))
def zJoin (K : PySem.W.Frag) : V → List V → Hp → VK → Prop := fun x xs H Q => ∃ a p, ∃ ys : List Str, x = .str a ∧ xs = [.ref p] ∧ (SqL K H p (ys.map V.str) ∨ SqT K H p (ys.map V.str)) ∧ (ys.map (·.length)).sum + ys.length * a.length ≤ 16777216 ∧ Q (.str (Txt.join a ys)) H
def zAddS : R2 := fun x y H Q => ∃ i j, x = .str i ∧ y = .str j ∧ i.length + j.length ≤ sizeLine ∧ Q (.str (i ++ j)) H
def zAdd : R2 := rI0 fun i j => .int (i + j)
def zSub : R2 := rI0 fun i j => .int (i - j)
def zMul : R2 := rI CMul fun i j => .int (i * j)
def zMod : R2 := rI (fun _ j => 0 < j) fun i j => .int (i % j)
def zDiv : R2 := rI CDiv fun i j => .int (i / j)
def zLt : R2 := rI0 fun i j => .bl (decide (i < j))
def zLe : R2 := rI0 fun i j => .bl (decide (i ≤ j))
def zGt : R2 := rI0 fun i j => .bl (decide (j < i))
def zGe : R2 := rI0 fun i j => .bl (decide (j ≤ i))
def zNeg : V → Hp → VK → Prop := rU fun i => .int (-i)
/-- the names of built-ins are not the module's own -/
structure Bn (mg : Str → Option Value) : Prop where
  len : mg "len" = none
  int : mg "int" = none
  abs : mg "abs" = none
  max : mg "max" = none
  min : mg "min" = none
  range : mg "range" = none
  isinstance : mg "isinstance" = none
  str : mg "str" = none
  bool : mg "bool" = none
  tuple : mg "tuple" = none
  list : mg "list" = none
  sum : mg "sum" = none
  zip : mg "zip" = none
  enumerate : mg "enumerate" = none
  repr : mg "repr" = none
section
variable {X : Cx}
theorem c_len : CallR X (.builtin "len") (zLen X.K) := call_len
theorem c_int : CallR X (.type "int") zInt := call_int1
theorem c_abs : CallR X (.builtin "abs") zAbs := call_abs
theorem c_max (hc : X.calm = true) : CallR X (.builtin "max") zMax := call_max2 hc
theorem c_min (hc : X.calm = true) : CallR X (.builtin "min") zMin := call_min2 hc
theorem c_strI : CallR X (.type "str") zStrI := call_str_int
theorem c_list : CallR X (.type "list") (zList X.K) := call_list_of
theorem c_join : MtR X "str.join" (zJoin X.K) := mt_join
theorem o_addS : OpR X (binaryOp .Add) zAddS := op_add_str
theorem o_add : OpR X (binaryOp .Add) zAdd := op_add
theorem o_sub : OpR X (binaryOp .Sub) zSub := op_sub
theorem o_mul : OpR X (binaryOp .Mult) zMul := op_mul
theorem o_mod : OpR X (binaryOp .Mod) zMod := op_mod
theorem o_div : OpR X (binaryOp .FloorDiv) zDiv := op_fdiv
theorem o_lt : OpR X (compareOp .Lt) zLt := op_lt
theorem o_le : OpR X (compareOp .LtE) zLe := op_le
theorem o_gt : OpR X (compareOp .Gt) zGt := op_gt
theorem o_ge : OpR X (compareOp .GtE) zGe := op_ge
theorem u_neg : UnR X (unaryOp .USub) zNeg := un_neg
end
section
variable {K : PySem.W.Frag} {Z : Zc}
theorem k_len : SimL K Z (zLen K) qLen := q_len
theorem k_int : SimL K Z zInt qInt := q_int
theorem k_abs : SimL K Z zAbs qAbs := q_abs
theorem k_max : SimL K Z zMax qMax := q_max
theorem k_min : SimL K Z zMin qMin := q_min
theorem k_strI : SimL K Z zStrI qStrI := q_strI
theorem k_list : SimL K Z (zList K) qList := q_list
theorem k_join : SimM K Z (zJoin K) mJoin := m_join
theorem k_addS : Sim2 K Z zAddS pAddS := s_addS
theorem k_add : Sim2 K Z zAdd (p0I fun i j => .int (i + j)) := s_iI
theorem k_sub : Sim2 K Z zSub (p0I fun i j => .int (i - j)) := s_iI
theorem k_mul : Sim2 K Z zMul (pCI CMul fun i j => .int (i * j)) := s_cI
theorem k_mod : Sim2 K Z zMod (pCI (fun _ j => 0 < j) fun i j => .int (i % j)) := s_cI
theorem k_div : Sim2 K Z zDiv (pCI CDiv fun i j => .int (i / j)) := s_cI
theorem k_lt : Sim2 K Z zLt (p0I fun i j => .bl (decide (i < j))) := s_iB
theorem k_le : Sim2 K Z zLe (p0I fun i j => .bl (decide (i ≤ j))) := s_iB
theorem k_gt : Sim2 K Z zGt (p0I fun i j => .bl (decide (j < i))) := s_iB
theorem k_ge : Sim2 K Z zGe (p0I fun i j => .bl (decide (j ≤ i))) := s_iB
theorem k_neg : Sim1 K Z zNeg pNeg := s_neg
end
/-! ### a < b < c; x or y of texts; not of lists -/
def pChain (p q : P2') (Ta Tb Tc : PE') : PE' := fun ρ Q => Ta ρ fun x => Tb ρ fun y => p ρ x y (bD fun k => if k = true then Tc ρ fun z => q ρ y z Q else Q (.bl false))
def truD (ρ : List Sl) : Dt → Option Bool
  | .str z => some ((z.length : Int) != 0)
  | .non => some false
  | .bl b => some b
  | .int i => some (i != 0)
  | .tup ds => some (!ds.isEmpty)
  | d => (asL ρ d).map fun ds => !ds.isEmpty
def okT : Dt → Prop
  | .str z => z.length ≤ sizeLine
  | _ => True
def pOrT (Ta Tb : PE') : PE' := fun ρ Q => Ta ρ fun x => okT x ∧ oD (truD ρ x) fun k => if k = true then Q x else Tb ρ Q
def pNotT (Ta : PE') : PE' := fun ρ Q => Ta ρ fun x => okT x ∧ oD (truD ρ x) fun k => Q (.bl (!k))
section
variable {K : PySem.W.Frag} {Z : Zc} {t u v : TE} {T U W : PE'}
theorem s_chain {r r' : R2} {p q : P2'} (hr : Sim2 K Z r p) (hr' : Sim2 K Z r' q) (h1 : SimE K Z t T) (h2 : SimE K Z u U) (h3 : SimE K Z v W) : SimE K Z (tChain r r' t u v) (pChain p q T U W) := ⟨fun A0 A σ ρ H G Q s h k => by
  refine h1.run A0 A σ ρ H _ _ s h fun d x H1 x1 r1 q1 => ?_
  have s1 := s.ex x1
  refine h2.run A0 A σ ρ H1 _ _ s1 q1 fun e y H2 x2 r2 q2 => ?_
  have s2 := s1.ex x2
  have x12 := x1.tr x2
  refine hr.run A0 A σ ρ H H2 x y d e _ _ s s2 (r1.ex s x1 x2) (r2.pre s.g.pk x1) q2 fun f z H3 x3 r3 q3 => ?_
  obtain ⟨b, rfl, q3⟩ := bD_of q3
  refine ⟨b, r3.bi, ?_⟩
  cases b with
  | false => exact k _ _ _ (x12.tr x3) (.of (.b false)) q3
  | true =>
    have s3 := s2.ex x3
    refine h3.run A0 A σ ρ H3 _ _ s3 q3 fun g w H4 x4 r4 q4 => ?_
    have ry : Rv K A σ ρ H H4 e y := ((r2.ex s1 x2 (x3.tr x4))).pre s.g.pk x1
    exact hr'.run A0 A σ ρ H H4 y w e g G Q s (s3.ex x4) ry (r4.pre s.g.pk (x12.tr x3)) q4 fun f2 z2 H5 x5 r5 q5 => k f2 z2 H5 (x12.tr (x3.tr (x4.tr x5))) (r5.pre s.g.pk (x12.tr (x3.tr x4))) q5⟩
theorem tru_of {A0 A : List Addr} {σ : L2.St} {ρ : List Sl} {H0 H : Hp} (s : Sg K Z A0 A σ H ρ) {d : Dt} {x : V} {b : Bool} (r : Rv K A σ ρ H0 H d x) (ok : okT d) (e : truD ρ d = some b) : TruV K x H b := by
  have lst : ∀ {ds : List Dt}, asL ρ d = some ds → b = (!ds.isEmpty) → TruV K x H b := fun {ds} e1 e2 => by
    obtain ⟨a, xs, rfl, h1, h2⟩ := asL_R s r e1
    refine .inl ⟨xs, .inl (.inl h1), ?_⟩
    rw [e2]
    cases ds with
    | nil => rw [h2.ni]; rfl
    | cons _ _ => obtain ⟨_, _, rfl, _, _⟩ := h2.ci; rfl
  cases d with
  | str z =>
    cases e
    rw [r.si]
    exact ⟨ok, rfl⟩
  | non => cases e; rw [r.nin]; rfl
  | bl c => cases e; rw [r.bi]; rfl
  | int c => cases e; rw [r.ii]; rfl
  | tup ds =>
    cases e
    obtain ⟨a, xs, rfl, h1, h2⟩ := r.ti.ti
    refine .inr (.inl ⟨xs, .inl (.inl h1), ?_⟩)
    cases ds with
    | nil => rw [h2.ni]; rfl
    | cons _ _ => obtain ⟨_, _, rfl, _, _⟩ := h2.ci; rfl
  | lst ds =>
    cases e
    exact lst rfl rfl
  | fre ds =>
    cases e
    exact lst rfl rfl
  | slot i =>
    simp only [truD, Option.map_eq_some_iff] at e
    obtain ⟨ds, e1, e2⟩ := e
    exact lst e1 e2.symm
  | _ => cases e
theorem s_orT (h1 : SimE K Z t T) (h2 : SimE K Z u U) : SimE K Z (tOrT K t u) (pOrT T U) := ⟨fun A0 A σ ρ H G Q s h k => h1.run A0 A σ ρ H _ _ s h fun d x H1 x1 r1 q1 => by
  obtain ⟨ok, q1⟩ := q1
  obtain ⟨b, e, q⟩ := oD_of q1
  refine ⟨b, tru_of (s.ex x1) r1 ok e, ?_⟩
  cases b with
  | true => exact k d x H1 x1 r1 q
  | false => exact h2.run A0 A σ ρ H1 _ _ (s.ex x1) q fun f z H2 x2 r2 q2 => k f z H2 (x1.tr x2) (r2.pre s.g.pk x1) q2⟩
theorem s_notT (h1 : SimE K Z t T) : SimE K Z (tNotT K t) (pNotT T) := ⟨fun A0 A σ ρ H G Q s h k => h1.run A0 A σ ρ H _ _ s h fun d x H1 x1 r1 q1 => by
  obtain ⟨ok, q1⟩ := q1
  obtain ⟨b, e, q⟩ := oD_of q1
  exact ⟨b, tru_of (s.ex x1) r1 ok e, k _ _ H1 x1 (.of (.b _)) q⟩⟩
end
/-! ### a, b, *c = a tuple -/
def gStar (K : PySem.W.Frag) (n i : Nat) (t : TGs) : TG := fun v σ H Q => ∃ a xs, v = .ref a ∧ SqT K H a xs ∧ n ≤ xs.length + 1 ∧ i < n ∧
  ∀ D, H D = none → t (xs.take i ++ [.ref D] ++ (xs.drop i).drop (xs.length + 1 - n)) σ (upd H D (.lst ((xs.drop i).take (xs.length + 1 - n)))) Q
section
variable {X : Cx} {pos : Pos}
theorem pgs_star {e : Expr} {es : List Expr} {p : Pos} {t : TG} {u : TGs} (h1 : PG X e t) (h2 : PGs X es u)
    (hs : (assignEach (.Starred e p :: es) X.env).map (·.2) = assign e X.env :: (assignEach es X.env).map (·.2) := by rfl) : PGs X (.Starred e p :: es) (gCons t u) := by
  refine ⟨fun pins s σ H vs us Q I r h => ?_⟩
  obtain ⟨v, vr, rfl, h⟩ := h
  cases r with
  | cons ra rb =>
    rw [hs]
    exact assignInOrder_cons (thn (h1.run pins s σ H _ _ _ I ra h) fun _ s1 ⟨σ1, H1, I1, q1⟩ => h2.run pins s1 σ1 H1 _ _ Q I1 rb q1)
theorem star_run {pins : List (Addr × Obj)} {σ : L2.St} {H : Hp} {s : Shared} {a : Addr} {xs : List V} {n i : Nat} {Q : List Value → Shared → Prop} {E : Value → Shared → Prop} (hc : X.calm = true) (I : Inv X pins σ H s) (h : SqT X.K H a xs) (hn : n ≤ xs.length + 1) (hi : i < n)
    (hQ : ∀ us s' Da, H Da = none → Inv X pins σ (upd H Da (.lst ((xs.drop i).take (xs.length + 1 - n)))) s' → Vals (xs.take i ++ [.ref Da] ++ (xs.drop i).drop (xs.length + 1 - n)) us → Q us s') :
    wpAny (model X.prog X.w) X.A (unpackItems (.ref a) n (some i)) Q E s := by
  obtain ⟨its, r, tup, lim⟩ := I.tuple h
  have hd := I.ok.hd hc
  have len := r.length
  have asz : its.toArray.size = xs.length := by rw [List.size_toArray, len]
  obtain ⟨ob, hob, hcls, hdat⟩ := id tup
  have low := Heap.lt_size hob
  have off := Nat.ne_of_lt low
  rw [unpackItems]
  have nia : wpAny (model X.prog X.w) X.A (notIterableAtAll (.ref a)) (fun b s' => b = false ∧ s' = s) E s := by
    rw [notIterableAtAll]
    exact wpAny_bind (wpAny_specialOf (T := "tuple") ⟨ob, hob, hcls⟩ slot_tuple_iter.lookup (wpAny_pure ⟨rfl, rfl⟩))
  refine wpAny_bind (thn nia fun b s' hb => ?_)
  obtain ⟨rfl, rfl⟩ := hb
  rw [if_neg Bool.false_ne_true]
  refine wpAny_bind (wpAny_holding (PyProof.Rows.iter_tuple tup ?_))
  have start : IsTupIter (s'.heap.push { cls := .type "tuple_iterator", data := .fields #[.ref a, .int 0 0] }) s'.heap.objs.size a 0 := ⟨_, Heap.get?_push_size _ rfl, rfl, rfl⟩
  refine wpAny_bind (wpAny_holding (PyProof.Rows.draw_tuple off i 0 _ _ start (tup.push _) (by rw [asz]; omega) fun g iter same => ?_))
  rw [Nat.zero_add] at iter
  have tupg : IsTup g a its.toArray := (tup.push _).extBut same.extBut off
  have cut : ((its.toArray.toList.drop 0).take i).length = i := by
    rw [List.drop_zero, List.length_take, Array.length_toList, asz]
    omega
  dsimp only
  rw [if_neg (by rw [cut]; exact Nat.lt_irrefl i)]
  obtain ⟨oi, hoi, _⟩ := id iter
  obtain ⟨ot, hot, _⟩ := id tupg
  refine wpAny_bind (wpAny_holding (PySem.W.kun_collect (s := { s' with heap := g }) (T := "tuple_iterator") (.inr (.inr (.inr rfl))) (Walks.tuple (A := X.A.in1) hd s'.heap.objs.size a off its.toArray)
    (fun j u st => st.1.typeIs) (k := i) (by rw [asz]; omega) ⟨iter, tupg⟩ (Heap.lt_size hoi) (Heap.lt_size hot) (fun g2 tk kept => ?_) (by rw [asz]; exact lim)))
  have tl : (its.toArray.toList.drop i).length = xs.length - i := by rw [List.length_drop, Array.length_toList, asz]
  rw [if_neg (by rw [tl]; omega)]
  have mid : (its.toArray.toList.drop i).length - (n - 1 - i) = xs.length + 1 - n := by rw [tl]; omega
  rw [mid]
  have all : ∀ b o, s'.heap.get? b = some o → g2.get? b = some o := fun b o e => by
    have nb : b ≠ s'.heap.objs.size := Nat.ne_of_lt (Heap.lt_size e)
    exact kept b o nb (same.extBut b o nb (Heap.get?_push_of_some _ e))
  have I2 : Inv X pins σ H { s' with heap := g2, toks := tk } := I.kept all
  have e2 : its.toArray.toList = its := by simp
  rw [e2]
  have rm : Vals ((xs.drop i).take (xs.length + 1 - n)) ((its.drop i).take (xs.length + 1 - n)) := (r.drop i).take _
  refine wpAny_bind (wpAny_newObj_type ?_ (by
    show ((its.drop i).take (xs.length + 1 - n)).toArray.size ≤ sizeLine
    rw [List.size_toArray, List.length_take, List.length_drop, ← len]
    omega))
  have free : H g2.objs.size = none := I2.hok.fresh (Nat.le_refl _)
  refine wpAny_pure (hQ _ _ g2.objs.size free (I2.laid (t' := tk) (fun b o e => Heap.get?_push_of_some _ e) (Nat.le_refl _) ⟨?_, (its.drop i).take (xs.length + 1 - n), 0, rm, Heap.get?_push_size _ rfl⟩) ?_)
  · rw [List.length_take, List.length_drop]
    omega
  · rw [List.drop_zero]
    exact ((r.take i).append (Paired.cons (show L2.RelV (.ref _) (.ref _) from rfl) .nil)).append ((r.drop i).drop _)
theorem pg_star {es : List Expr} {k : Nat} {t : TGs} {n i : Nat} (hc : X.calm = true) (h : PGs X es t) (hn : (assignEach es X.env).length = n := by rfl) (hst : (assignEach es X.env).findIdx? (·.1) = some i := by rfl) : PG X (.Tuple es k pos) (gStar X.K n i t) := by
  refine ⟨fun pins s σ H v u Q I r hw => ?_⟩
  obtain ⟨a, xs, rfl, hq, h1, h2, hw⟩ := hw
  cases r
  rw [PyProof.Rows.assign_Tuple]
  refine wpAny_bind (wpAny_standAt ?_)
  rw [unpack, hn, hst]
  refine wpAny_bind (wpAny_holding (star_run hc I hq h1 h2 fun us s' Da hD I' rv => ?_))
  exact h.run pins s' σ _ _ us Q I' rv (hw Da hD)
end
/-- the targets take the list of the middle as data -/
def pgStar (n i : Nat) (q : List Dt → List Sl → (List Sl → Prop) → Prop) : PG' := fun d ρ M => match d with
  | .tup ds => n ≤ ds.length + 1 ∧ i < n ∧ q (ds.take i ++ [.lst ((ds.drop i).take (ds.length + 1 - n))] ++ (ds.drop i).drop (ds.length + 1 - n)) ρ M
  | _ => False
structure SimG2 (K : PySem.W.Frag) (js : List Nat) (g : TG) (p : PG') : Prop where
  run : ∀ (Z : Zc) (A0 A : List Addr) (σ : L2.St) (ρ : List Sl) (H : Hp) (d : Dt) (x : V) (N : L2.St → Hp → Prop) (M : List Sl → Prop), Sg K Z A0 A σ H ρ → R K A H d x → p d ρ M →
    (∀ σ' ρ' H', Ex Z H H' → Sg K Z A0 A σ' H' ρ' → (σ'.length = σ.length ∧ ∀ i, i ∉ js → σ'[i]? = σ[i]?) → M ρ' → N σ' H') → g x σ H N
section
variable {K : PySem.W.Frag} {Z : Zc} {js : List Nat} {gs : TGs} {q : List Dt → List Sl → (List Sl → Prop) → Prop} {t : TE} {T : PE'}
theorem Rs.drop2 {A : List Addr} {H : Hp} {ds : List Dt} {xs : List V} (r : Rs K A H ds xs) (n : Nat) : Rs K A H (ds.drop n) (xs.drop n) := r.dr n
theorem s_gStar {n i : Nat} (h : SimGs K js gs q) : SimG2 K js (gStar K n i gs) (pgStar n i q) := ⟨fun Z A0 A σ ρ H d x N M s r h1 k => by
  cases d with
  | tup ds =>
    obtain ⟨a, xs, rfl, e, r2⟩ := r.ti
    obtain ⟨h1, h2, h3⟩ := h1
    refine ⟨a, xs, rfl, .inl (.inl e), by rw [r2.len]; exact h1, h2, fun Da hD => ?_⟩
    have xn := Ex.new (o := .lst ((xs.drop i).take (xs.length + 1 - n))) s.g.pk hD
    have r3 := Rs.mv (s.g.mv xn) _ _ r2
    have sn := s.ex xn
    rw [← r2.len] at h3
    refine h.run Z A0 A σ ρ _ _ _ _ _ sn ?_ h3 fun σ' ρ' s' o' h' => k σ' ρ' _ xn s' o' h'
    refine Rs.app (Rs.app (r3.tk i) (.c (.l (s.g.new hD) upd_same ?_) .n)) ((r3.dr i).dr _)
    exact (r3.dr i).tk _
  | _ => exact False.elim h1⟩
theorem s_asg2 {g : TG} {p : PG'} (h1 : SimE K Z t T) (h2 : SimG2 K js g p) : SimS K Z (tAsg t g) (pAsg T p) := ⟨fun A0 A σ ρ H D P s h E => h1.run A0 A σ ρ H _ _ s h fun d v H1 x1 r1 q1 => by
  obtain ⟨d', e, q⟩ := oD_of q1
  have r := cl_R s.g r1 e
  exact h2.run Z A0 A σ ρ H1 d' v _ _ (s.ex x1) r q fun σ' ρ' H2 x2 s' _ q' => E.nx A σ' ρ' H2 s' (Wr.ex s.g (x1.tr x2)) q'⟩
end
end Pv

set_option maxRecDepth 100000
set_option maxHeartbeats 4000000
namespace Pv
open PySem PySem.Spec PyProof.Rows L2 Xv
/-! ### zip and enumerate of lists, tuples and texts, in any mixture -/
inductive Sk where
  | l (a : Addr) | t (a : Addr) | s (z : Str)
namespace Sk
def v : Sk → V
  | .l a => .ref a
  | .t a => .ref a
  | .s z => .str z
def ad : Sk → List Addr
  | .l a => [a]
  | .t a => [a]
  | .s _ => []
/-- so many items stand there -/
def has (K : PySem.W.Frag) : Sk → Hp → Nat → Prop
  | .l a, H, n => ∃ xs, SqL K H a xs ∧ xs.length = n
  | .t a, H, n => ∃ xs, SqT K H a xs ∧ xs.length = n
  | .s z, _, n => z.cps.toList.length = n
/-- the item at a place -/
def al (K : PySem.W.Frag) : Sk → Hp → Nat → V → Prop
  | .l a, H, i, x => ∀ xs, SqL K H a xs → xs[i]? = some x
  | .t a, H, i, x => ∀ xs, SqT K H a xs → xs[i]? = some x
  | .s z, _, i, x => ∃ c, z.cps.toList[i]? = some c ∧ x = .str ⟨#[c]⟩
/-- the iterator at its turn -/
def it : Sk → Addr → Nat → Heap → Prop
  | .l a, b, i, h => h.IsListIter b a i
  | .t a, b, i, h => h.IsTupleIter b a i
  | .s z, b, i, h => ∃ t, h.IsStrIter b (strIterType z) z t i
theorem live {k : Sk} {b : Addr} {i : Nat} {h : Heap} (x : k.it b i h) : ∃ o, h.get? b = some o ∧ ∀ v, o.data ≠ .cell v := by
  cases k with
  | l a => obtain ⟨o, e, _, d⟩ := x; exact ⟨o, e, fun v q => by rw [d] at q; cases q⟩
  | t a => obtain ⟨o, e, _, d⟩ := x; exact ⟨o, e, fun v q => by rw [d] at q; cases q⟩
  | s z => obtain ⟨t, o, e, _, d⟩ := x; exact ⟨o, e, fun v q => by rw [d] at q; cases q⟩
theorem keep {k : Sk} {b : Addr} {i : Nat} {h h' : Heap} (x : k.it b i h) (q : ∀ o, h.get? b = some o → h'.get? b = some o) : k.it b i h' := by
  cases k with
  | l a => exact Heap.IsListIter.at x q
  | t a => exact Heap.IsTupleIter.at x q
  | s z => obtain ⟨t, o, e, r⟩ := x; exact ⟨t, o, q o e, r⟩
end Sk
theorem vals_back {xs : List V} {us : List Value} (r : Vals xs us) {j : Nat} {u : Value} (h : us[j]? = some u) : ∃ x, xs[j]? = some x ∧ RelV x u := by
  have hj : j < xs.length := by
    rw [r.length]
    exact (List.getElem?_eq_some_iff.mp h).1
  have e : xs[j]? = some xs[j] := by simp [hj]
  obtain ⟨u', h1, h2⟩ := r.get e
  rw [h] at h1
  cases h1
  exact ⟨_, e, h2⟩
section
variable {X : Cx} {pins : List (Addr × Obj)} {σ : L2.St} {H : Hp} {s : Shared}
/-- what an iterator over such a thing hands out, the thing as it stands now -/
theorem sk_draws {k : Sk} {b : Addr} {i n : Nat} (hc : X.calm = true) (I : Inv X pins σ H s) (hi : k.it b i s.heap) (hb : b ∉ k.ad) (hn : k.has X.K H n) :
    ∃ P St, Draws X.prog X.w X.A.in1 b (b :: k.ad) n P St ∧ St i s.heap ∧ (∀ j h, St j h → k.it b j h) ∧ ∀ j u, P j u → ∃ x, RelV x u ∧ k.al X.K H j x := by
  have hd : X.A.in1.handled = none := I.ok.hd hc
  cases k with
  | l a =>
    obtain ⟨xs, hq, rfl⟩ := hn
    obtain ⟨its, rv, p, _⟩ := I.list hq
    have e : its.toArray.size = xs.length := by rw [List.size_toArray, rv.length]
    have D := Draws.list (prog := X.prog) (w := X.w) (A := X.A.in1) hd b a (fun z => hb (by rw [z]; exact List.mem_singleton.mpr rfl)) its.toArray
    rw [e] at D
    refine ⟨_, _, D, ⟨hi, p.isList⟩, fun j h q => q.1, fun j u q => ?_⟩
    obtain ⟨x, h1, h2⟩ := vals_back rv (by simpa using q)
    exact ⟨x, h2, fun ys hy => by rw [I.list_inj hy hq]; exact h1⟩
  | t a =>
    obtain ⟨xs, hq, rfl⟩ := hn
    obtain ⟨its, rv, p, _⟩ := I.tuple hq
    have e : its.toArray.size = xs.length := by rw [List.size_toArray, rv.length]
    have D := Draws.tuple (prog := X.prog) (w := X.w) (A := X.A.in1) hd b a (fun z => hb (by rw [z]; exact List.mem_singleton.mpr rfl)) its.toArray
    rw [e] at D
    refine ⟨_, _, D, ⟨hi, (show s.heap.IsTuple a its.toArray from p)⟩, fun j h q => q.1, fun j u q => ?_⟩
    obtain ⟨x, h1, h2⟩ := vals_back rv (by simpa using q)
    exact ⟨x, h2, fun ys hy => by rw [I.tuple_inj hy hq]; exact h1⟩
  | s z =>
    obtain ⟨t, hi⟩ := hi
    have e : z.cps.size = n := by rw [← hn]; simp
    have D := Draws.text (prog := X.prog) (w := X.w) (A := X.A.in1) hd b z t
    rw [e] at D
    refine ⟨_, _, D, hi, fun j h q => ⟨t, q⟩, fun j u q => ?_⟩
    obtain ⟨c, u', h1, rfl⟩ := q
    exact ⟨.str ⟨#[c]⟩, ⟨_, rfl⟩, c, by simpa using h1, rfl⟩
/-- iter(v) of such a thing -/
theorem sk_begins {k : Sk} {n : Nat} {u : Value} (I : Inv X pins σ H s) (r : RelV k.v u) (hn : k.has X.K H n) :
    ∃ o W, Begins u o W ∧ W s.heap ∧ (∀ h' b, h'.get? b = some o → k.it b 0 h') ∧ ∀ a ∈ k.ad, a < s.heap.objs.size := by
  cases k with
  | l a =>
    obtain ⟨xs, hq, rfl⟩ := hn
    obtain ⟨its, rv, p, _⟩ := I.list hq
    cases (show u = Value.ref a from r)
    exact ⟨_, _, begins_list a its.toArray, p.isList, fun h' b e => ⟨_, e, rfl, rfl⟩, fun c hc => by rw [List.mem_singleton.mp hc]; exact p.lt⟩
  | t a =>
    obtain ⟨xs, hq, rfl⟩ := hn
    obtain ⟨its, rv, p, _⟩ := I.tuple hq
    cases (show u = Value.ref a from r)
    exact ⟨_, _, begins_tuple a its.toArray, p, fun h' b e => ⟨_, e, rfl, rfl⟩, fun c hc => by rw [List.mem_singleton.mp hc]; exact p.lt⟩
  | s z =>
    obtain ⟨t, rfl⟩ := (show ∃ t, u = Value.str z t from r)
    exact ⟨_, _, begins_text z t, trivial, fun h' b e => ⟨t, _, e, rfl, rfl⟩, fun c hc => absurd hc (by simp [Sk.ad])⟩
end
/-- pairs of items -/
def ItZ (K : PySem.W.Frag) (k1 k2 : Sk) : It :=
  ⟨fun i H => ∃ n m, k1.has K H n ∧ k2.has K H m ∧ i < n ∧ i < m,
    fun i H v H' => ∃ T x y, v = .ref T ∧ H T = none ∧ H' = upd H T (.tup [x, y]) ∧ k1.al K H i x ∧ k2.al K H i y,
    fun i H => ∃ n m, k1.has K H n ∧ k2.has K H m ∧ i ≤ n ∧ i ≤ m ∧ (i = n ∨ i = m)⟩
/-- items with their places -/
def ItE (K : PySem.W.Frag) (k : Sk) : It :=
  ⟨fun i H => ∃ n, k.has K H n ∧ i < n,
    fun i H v H' => ∃ T x, v = .ref T ∧ H T = none ∧ H' = upd H T (.tup [.int (i : Nat), x]) ∧ k.al K H i x,
    fun i H => k.has K H i⟩
/-- the cells of a zip lie apart from what it walks -/
structure Apt (z TI TO i1 i2 : Addr) (k1 k2 : Sk) : Prop where
  sep : ZipSep2 z TI TO i1 i2 (i1 :: k1.ad) (i2 :: k2.ad)
section
variable {P : Program} {w : World} {K : PySem.W.Frag} {elts : List Expr} {kk : Nat} {tpos : Pos}
theorem turn_Z {z TI TO i1 i2 : Addr} {k1 k2 : Sk} (D : Apt z TI TO i1 i2 k1 k2) (n1 : i1 ∉ k1.ad) (n2 : i2 ∉ k2.ad) :
    Turn P w K (.Tuple elts kk tpos) (ItZ K k1 k2) [z, TI, TO, i1, i2] z (fun i h => IsZip h z TI TO .none ∧ IsTupOf2 h TI (.ref i1) (.ref i2) ∧ (∃ x y, IsTupOf2 h TO x y) ∧ k1.it i1 i h ∧ k2.it i2 i h) where
  mem := List.mem_cons_self ..
  obj := fun i h st c hc => by
    obtain ⟨a1, a2, ⟨x, y, a3⟩, a4, a5⟩ := st
    simp only [List.mem_cons, List.not_mem_nil, or_false] at hc
    rcases hc with rfl | rfl | rfl | rfl | rfl
    · exact ⟨_, a1, fun _ q => nomatch q⟩
    · exact ⟨_, a2, fun _ q => nomatch q⟩
    · exact ⟨_, a3, fun _ q => nomatch q⟩
    · exact Sk.live a4
    · exact Sk.live a5
  keep := fun i h h' st q => by
    obtain ⟨a1, a2, ⟨x, y, a3⟩, a4, a5⟩ := st
    exact ⟨q z (by simp) _ a1, q TI (by simp) _ a2, ⟨x, y, q TO (by simp) _ a3⟩, Sk.keep a4 (q i1 (by simp)), Sk.keep a5 (q i2 (by simp))⟩
  item := by
    intro X e1 e2 e3 hc i pins s σ H E I hf st hg
    subst e1 e2 e3
    obtain ⟨a1, a2, ⟨x0, y0, a3⟩, a4, a5⟩ := st
    obtain ⟨n, m, h1, h2, l1, l2⟩ := hg
    obtain ⟨P1, S1, D1, s1, f1, g1⟩ := sk_draws hc I a4 n1 h1
    obtain ⟨P2, S2, D2, s2, f2, g2⟩ := sk_draws hc I a5 n2 h2
    have zl := Heap.lt_size a1
    refine wpAny_pyNext_zipD2_item D.sep D1 D2 a1 a2 a3 s1 s2 l1 l2 fun u1 u2 h' tk p1 p2 b1 b2 b3 b4 b5 _ b7 => ?_
    obtain ⟨x, rx, qx⟩ := g1 _ _ p1
    obtain ⟨y, ry, qy⟩ := g2 _ _ p2
    refine ⟨_, rfl, wpAny_letOwnedTupleGo_zip (s := { s with heap := h', toks := tk }) b1 fun h'' c1 sb => ?_⟩
    have far : ∀ c o, c ≠ z → h'.get? c = some o → h''.get? c = some o := fun c o q e => sb.extBut c o q e
    have old : ∀ c o, c ∉ [z, TI, TO, i1, i2] → s.heap.get? c = some o → h''.get? c = some o := fun c o q e => by
      simp only [List.mem_cons, List.not_mem_nil, or_false, not_or] at q
      exact far c o q.1 (b7 c o q.1 q.2.2.1 q.2.2.2.1 q.2.2.2.2 e)
    have new := far _ _ (Nat.ne_of_gt zl) b5
    have I1 : Inv X pins σ (upd H s.heap.objs.size (.tup [x, y])) { s with heap := h'', toks := tk } :=
      I.turnedNew (ch := [z, TI, TO, i1, i2]) old hf (Nat.le_refl _) ⟨by show 2 ≤ sizeLine; decide, [u1, u2], .cons rx (.cons ry .nil), _, new, rfl, _, rfl⟩
    refine ⟨.ref s.heap.objs.size, _, I1, rfl, ⟨_, x, y, rfl, I.hok.fresh (Nat.le_refl _), rfl, qx, qy⟩, ⟨c1, ?_, ⟨u1, u2, far _ _ D.sep.TOz b2⟩, Sk.keep (f1 _ _ b3) fun o e => far _ _ (Ne.symm D.sep.zi1) e, Sk.keep (f2 _ _ b4) fun o e => far _ _ (Ne.symm D.sep.zi2) e⟩, fun c hcm => ?_⟩
    · exact far _ _ D.sep.TIz (b7 _ _ D.sep.TIz D.sep.TITO D.sep.TIi1 D.sep.TIi2 a2)
    · have low : c < s.heap.objs.size := by
        simp only [List.mem_cons, List.not_mem_nil, or_false] at hcm
        rcases hcm with rfl | rfl | rfl | rfl | rfl
        · exact zl
        · exact Heap.lt_size a2
        · exact Heap.lt_size a3
        · obtain ⟨o, e, _⟩ := Sk.live a4; exact Heap.lt_size e
        · obtain ⟨o, e, _⟩ := Sk.live a5; exact Heap.lt_size e
      rw [upd_ne (Nat.ne_of_lt low)]
      exact (hf c hcm).1
  done := by
    intro X e1 e2 e3 hc i pins s σ H E I hf st hg
    subst e1 e2 e3
    obtain ⟨a1, a2, ⟨x0, y0, a3⟩, a4, a5⟩ := st
    obtain ⟨n, m, h1, h2, l1, l2, l3⟩ := hg
    obtain ⟨P1, S1, D1, s1, f1, g1⟩ := sk_draws hc I a4 n1 h1
    obtain ⟨P2, S2, D2, s2, f2, g2⟩ := sk_draws hc I a5 n2 h2
    refine wpAny_pyNext_zipD2_end D.sep D1 D2 a1 a2 a3 s1 s2 l1 l2 l3 fun h' tk kp => ⟨rfl, I.turnedL (ch := [z, TI, TO, i1, i2]) (fun c o q e => ?_) hf⟩
    simp only [List.mem_cons, List.not_mem_nil, or_false, not_or] at q
    exact kp c o q.1 q.2.2.1 q.2.2.2.1 q.2.2.2.2 e
  self := fun A i s Q E st q => wpAny_pyIter_zip st.1 q
theorem turn_E {e b : Addr} {k : Sk} (he : e ∉ b :: k.ad) (hb : b ∉ k.ad) :
    Turn P w K (.Tuple elts kk tpos) (ItE K k) [e, b] e (fun i h => (∃ old, IsEnum h e b ((i : Nat) : Int) old) ∧ k.it b i h) where
  mem := List.mem_cons_self ..
  obj := fun i h st c hc => by
    obtain ⟨⟨old, a1⟩, a2⟩ := st
    simp only [List.mem_cons, List.not_mem_nil, or_false] at hc
    rcases hc with rfl | rfl
    · exact ⟨_, a1, fun _ q => nomatch q⟩
    · exact Sk.live a2
  keep := fun i h h' st q => ⟨st.1.imp fun old a => q e (by simp) _ a, Sk.keep st.2 (q b (by simp))⟩
  item := by
    intro X e1 e2 e3 hc i pins s σ H E I hf st hg
    subst e1 e2 e3
    obtain ⟨⟨old, a1⟩, a2⟩ := st
    obtain ⟨n, h1, l1⟩ := hg
    obtain ⟨P1, S1, D1, s1, f1, g1⟩ := sk_draws hc I a2 hb h1
    have el := Heap.lt_size a1
    have eb : e ≠ b := fun z => he (by rw [z]; exact List.mem_cons_self ..)
    refine wpAny_pyNext_enum_itemC D1 a1 s1 l1 eb he fun u h' tk p1 b1 b2 b3 _ b5 => ?_
    obtain ⟨x, rx, qx⟩ := g1 _ _ p1
    refine ⟨_, rfl, wpAny_letOwnedTupleGo_enum (s := { s with heap := h', toks := tk + 1 }) b1 fun h'' c1 sb => ?_⟩
    have far : ∀ c o, c ≠ e → h'.get? c = some o → h''.get? c = some o := fun c o q z => sb.extBut c o q z
    have old : ∀ c o, c ∉ [e, b] → s.heap.get? c = some o → h''.get? c = some o := fun c o q z => by
      simp only [List.mem_cons, List.not_mem_nil, or_false, not_or] at q
      exact far c o q.1 (b5 c o q.1 q.2 z)
    have new := far _ _ (Nat.ne_of_gt el) b3
    have I1 : Inv X pins σ (upd H s.heap.objs.size (.tup [.int (i : Nat), x])) { s with heap := h'', toks := tk + 1 } :=
      I.turnedNew (ch := [e, b]) old hf (Nat.le_refl _) ⟨by show 2 ≤ sizeLine; decide, [.int i tk, u], .cons ⟨_, rfl⟩ (.cons rx .nil), _, new, rfl, _, rfl⟩
    refine ⟨.ref s.heap.objs.size, _, I1, rfl, ⟨_, x, rfl, I.hok.fresh (Nat.le_refl _), rfl, qx⟩, ⟨⟨u, ?_⟩, Sk.keep (f1 _ _ b2) fun o z => far _ _ (Ne.symm eb) z⟩, fun c hcm => ?_⟩
    · have z : ((i + 1 : Nat) : Int) = (i : Int) + 1 := by omega
      rw [z]
      exact c1
    · have low : c < s.heap.objs.size := by
        simp only [List.mem_cons, List.not_mem_nil, or_false] at hcm
        rcases hcm with rfl | rfl
        · exact el
        · obtain ⟨o, z, _⟩ := Sk.live a2; exact Heap.lt_size z
      rw [upd_ne (Nat.ne_of_lt low)]
      exact (hf c hcm).1
  done := by
    intro X e1 e2 e3 hc i pins s σ H E I hf st hg
    subst e1 e2 e3
    obtain ⟨⟨old, a1⟩, a2⟩ := st
    obtain ⟨P1, S1, D1, s1, f1, g1⟩ := sk_draws hc I a2 hb hg
    refine wpAny_pyNext_enum_endD D1 a1 s1 fun h' eb => ⟨rfl, I.turnedL (t' := s.toks) (ch := [e, b]) (fun c o q z => eb c o (fun y => q (by simp [y])) z) hf⟩
  self := fun A i s Q E st q => let ⟨_, a⟩ := st.1; wpAny_pyIter_enum a q
end
/-! the calls -/
theorem enum_new1 {v : Value} {o : Obj} {W : Heap → Prop} (B : Begins v o W) : Meets (Builtin.«enumerate.__new__» ⟨[.type "enumerate", v], []⟩) (fun _ R s => W s.heap ∧
    R (.ok (.ret (.ref (s.heap.push o).objs.size))) { s with heap := (s.heap.push o).push { cls := .type "enumerate", data := .fields #[.none, .bool false, .ref s.heap.objs.size, rawInt 0, .none, .none] } }) :=
  .of_wp fun prog w A R s hyp => by
    obtain ⟨hp, gs, dr, tok, os⟩ := s
    obtain ⟨hw, hyp⟩ := hyp
    have sub := sub_enumerate
    have go : ∀ {A' : Around} {E : Value → Shared → Prop} {Q : Value → Shared → Prop}, Q (.ref hp.objs.size) ⟨hp.push o, gs, dr, tok, os⟩ → wpAny (model prog w) A' (pyIter v) Q E ⟨hp, gs, dr, tok, os⟩ := fun q => B.iter prog w _ _ ⟨hp, gs, dr, tok, os⟩ _ hw q
    wp_walk using go
    refine wpAny_stack_any fun _ => wpAny_pure ?_
    split
    · rename_i c _ _ _ _ _
      cases (c == Value.type "enumerate")
      all_goals (wp_walk using go; exact ⟨_, rfl, hyp⟩)
    · wp_walk using go
      exact ⟨_, rfl, hyp⟩
section
variable {prog : Program} {w : World} {A : Around} {E : Value → Shared → Prop} {s : Shared}
theorem enum_one {v : Value} {o : Obj} {W : Heap → Prop} {Q : Value → Shared → Prop} (B : Begins v o W) (hw : W s.heap)
    (h : ∀ h', IsEnum h' (s.heap.objs.size + 1) s.heap.objs.size 0 .none → h'.get? s.heap.objs.size = some o → (∀ c u, s.heap.get? c = some u → h'.get? c = some u) → Q (.ref (s.heap.objs.size + 1)) { s with heap := h' }) :
    wpAny (model prog w) A (call (.type "enumerate") [v]) Q E s := by
  refine callType_new F.called_enumerate (by decide) (F.typeCall_enumerate_1 _) (F.newCall_enumerate_1 _) (fun obj => F.args_object_init_2 obj _) F.entry_enumerate_new (enum_new1 B) ⟨hw, ?_⟩
  have sz : (s.heap.push o).objs.size = s.heap.objs.size + 1 := Heap.size_push ..
  have top := Heap.get?_push_size (s.heap.push o) (o := { cls := .type "enumerate", data := .fields #[.none, .bool false, .ref s.heap.objs.size, rawInt 0, .none, .none] }) rfl
  show _ ∧ _
  rw [sz] at top ⊢
  exact ⟨⟨_, top, rfl⟩, h _ top (Heap.get?_push_of_some _ (Heap.get?_push_size _ B.free)) fun c u z => Heap.get?_push_of_some _ (Heap.get?_push_of_some _ z)⟩
end
def iZz (K : PySem.W.Frag) (ta : TA) : TI := fun σ H R => ta σ H fun vs H1 => ∃ k1 k2 n m, vs = [k1.v, k2.v] ∧ k1.has K H1 n ∧ k2.has K H1 m ∧ R (ItZ K k1 k2) H1
def iEe (K : PySem.W.Frag) (ta : TA) : TI := fun σ H R => ta σ H fun vs H1 => ∃ k n, vs = [k.v] ∧ k.has K H1 n ∧ R (ItE K k) H1
section
variable {X : Cx} {e e2 : Expr} {ta : TA} {p pos tpos : Pos} {elts : List Expr} {kk : Nat}
theorem pi_zz (hg : Gl X "zip") (hm : X.mg "zip" = none) (ha : PA X [e, e2] ta) (hs : starEach [e, e2] X.env = (false, eval e X.env) :: starEach [e2] X.env := by rfl) (hpl : (backTo pos (starEach [e2] X.env)).any (·.1) = false := by rfl) :
    PI X (.Tuple elts kk tpos) (.Call (.Name "zip" p) [e, e2] [] pos) (iZz X.K ta) := by
  refine ⟨fun pins s σ H R I h => Call_ (ld_blt I hg hm PyProof.Rows.boot_zip (PyProof.Rows.callWith_type1 (thn (ha.run pos pins s σ H _ I h) fun us s1 ⟨vs, H1, I1, r1, q1⟩ => ?_) hs hpl))⟩
  obtain ⟨k1, k2, n, m, rfl, h1, h2, q⟩ := q1
  obtain ⟨u1, u2, rfl, ra, rb⟩ := Vals.two r1
  obtain ⟨o1, W1, B1, w1, f1, g1⟩ := sk_begins I1 ra h1
  obtain ⟨o2, W2, B2, w2, f2, g2⟩ := sk_begins I1 rb h2
  refine zip_begins2 B1 B2 w1 w2 fun h' hz hTI hTO x1 x2 _ kp => wpAny_pyIter_zip hz ?_
  have I2 : Inv X pins σ H1 { s1 with heap := h' } := I1.kept (t' := s1.toks) kp
  refine ⟨s1.heap.objs.size + 4, [s1.heap.objs.size + 4, s1.heap.objs.size + 2, s1.heap.objs.size + 3, s1.heap.objs.size, s1.heap.objs.size + 1], _, _, H1, rfl, I2, turn_Z ⟨zip_sep2 g1 g2⟩ (fun z => Nat.lt_irrefl _ (g1 _ z)) (fun z => absurd (g2 _ z) (Nat.not_lt.mpr (Nat.le_succ _))), ⟨hz, hTI, ⟨_, _, hTO⟩, f1 _ _ x1, f2 _ _ x2⟩, fun c hc => ?_, q⟩
  have le : s1.heap.objs.size ≤ c := by
    simp only [List.mem_cons, List.not_mem_nil, or_false] at hc
    rcases hc with rfl | rfl | rfl | rfl | rfl
    · exact Nat.le_add_right _ _
    · exact Nat.le_add_right _ _
    · exact Nat.le_add_right _ _
    · exact Nat.le_refl _
    · exact Nat.le_succ _
  exact I1.fpOk le (I1.hok.fresh le)
theorem pi_ee (hg : Gl X "enumerate") (hm : X.mg "enumerate" = none) (ha : PA X [e] ta) (hs : starEach [e] X.env = [(false, eval e X.env)] := by rfl) :
    PI X (.Tuple elts kk tpos) (.Call (.Name "enumerate" p) [e] [] pos) (iEe X.K ta) := by
  refine ⟨fun pins s σ H R I h => Call_ (ld_blt I hg hm boot_enumerate (PyProof.Rows.callWith_type1 (thn (ha.run pos pins s σ H _ I h) fun us s1 ⟨vs, H1, I1, r1, q1⟩ => ?_) hs rfl))⟩
  obtain ⟨k, n, rfl, h1, q⟩ := q1
  obtain ⟨u, rfl, rz⟩ := Vals.one r1
  obtain ⟨o1, W1, B1, w1, f1, g1⟩ := sk_begins I1 rz h1
  refine enum_one B1 w1 fun h' he x1 kp => wpAny_pyIter_enum he ?_
  have I2 : Inv X pins σ H1 { s1 with heap := h' } := I1.kept (t' := s1.toks) kp
  refine ⟨s1.heap.objs.size + 1, [s1.heap.objs.size + 1, s1.heap.objs.size], _, _, H1, rfl, I2, turn_E (b := s1.heap.objs.size) (fun z => ?_) (fun z => Nat.lt_irrefl _ (g1 _ z)), ⟨⟨.none, he⟩, f1 _ _ x1⟩, fun c hc => ?_, q⟩
  · rcases List.mem_cons.mp z with z | z
    · exact Nat.succ_ne_self _ z
    · exact absurd (g1 _ z) (Nat.not_lt.mpr (Nat.le_succ _))
  · have le : s1.heap.objs.size ≤ c := by
      simp only [List.mem_cons, List.not_mem_nil, or_false] at hc
      rcases hc with rfl | rfl
      · exact Nat.le_succ _
      · exact Nat.le_refl _
    exact I1.fpOk le (I1.hok.fresh le)
end
/-! as plain things -/
/-- the items of a thing that is walked -/
def walkD : Dt → Option (List Dt)
  | .lst ds => some ds
  | .fre ds => some ds
  | .tup ds => some ds
  | .str z => some (z.cps.toList.map sgn)
  | _ => none
def piZip (T : PA') : List Sl → (List Dt → Prop) → Prop := fun ρ Q => T ρ fun
  | [a, b] => oD (walkD a) fun ds => oD (walkD b) fun es => Q (List.zipWith (fun x y => .tup [x, y]) ds es)
  | _ => False
def enumD : Nat → List Dt → List Dt
  | _, [] => []
  | i, d :: ds => .tup [.int (i : Nat), d] :: enumD (i + 1) ds
def piEnum (T : PA') : List Sl → (List Dt → Prop) → Prop := fun ρ Q => T ρ fun
  | [a] => oD (walkD a) fun ds => Q (enumD 0 ds)
  | _ => False
theorem enumD_at : ∀ {ds : List Dt} {j i : Nat} {d : Dt}, (enumD j ds)[i]? = some d → ∃ x, ds[i]? = some x ∧ d = .tup [.int ((j + i : Nat) : Int), x]
  | [], j, i, d, h => by simp [enumD] at h
  | c :: ds, j, 0, d, h => by
    simp [enumD] at h
    exact ⟨c, rfl, by rw [← h]; rfl⟩
  | c :: ds, j, i + 1, d, h => by
    simp only [enumD, List.getElem?_cons_succ] at h
    obtain ⟨x, h1, h2⟩ := enumD_at h
    refine ⟨x, by simpa using h1, ?_⟩
    rw [h2]
    have e : j + 1 + i = j + (i + 1) := by omega
    rw [e]
theorem enumD_len : ∀ {ds : List Dt} {j : Nat}, (enumD j ds).length = ds.length
  | [], _ => rfl
  | c :: ds, j => by
    simp only [enumD, List.length_cons]
    rw [enumD_len]
section
variable {K : PySem.W.Frag} {Z : Zc} {ta : TA} {Ta : PA'}
/-- a thing that stays as it is while it is walked -/
structure Wk (K : PySem.W.Frag) (A : List Addr) (k : Sk) (H1 : Hp) (ds : List Dt) : Prop where
  at_ : ∀ A' H2, Mv A H1 H2 → Nw A A' H1 → k.has K H2 ds.length ∧ ∀ i d, ds[i]? = some d → ∀ x, k.al K H2 i x → R K A' H2 d x
theorem wk_of {A : List Addr} {σ : L2.St} {ρ : List Sl} {A0 : List Addr} {H0 H1 : Hp} (s0 : Sg K Z A0 A σ H0 ρ) (x : Ex Z H0 H1) {d : Dt} {v : V} {ds : List Dt} (r : Rv K A σ ρ H0 H1 d v) (e : walkD d = some ds) : ∃ k : Sk, k.v = v ∧ Wk K A k H1 ds := by
  have lst : ∀ {es : List Dt}, R K A H1 (.lst es) v → ∃ k : Sk, k.v = v ∧ Wk K A k H1 es := fun {es} h => by
    obtain ⟨a, xs, rfl, n, h2, r2⟩ := h.li
    refine ⟨.l a, rfl, ⟨fun A' H2 m nw => ?_⟩⟩
    have h3 : H2 a = some (.lst xs) := m.1 _ _ n h2
    have r3 := Rs.mv2 m nw _ _ r2
    refine ⟨⟨xs, .inl (.inl h3), r3.len⟩, fun i d hd x hx => ?_⟩
    obtain ⟨y, q1, q2⟩ := r3.at_ hd
    have q3 := hx xs (.inl (.inl h3))
    rw [q1] at q3
    cases q3
    exact q2
  cases d with
  | lst es =>
    cases e
    exact lst r
  | fre es =>
    cases e
    exact lst (cl_R s0.g (d := .fre _) r rfl)
  | tup es =>
    cases e
    obtain ⟨a, xs, rfl, h2, r2⟩ := r.ti.ti
    refine ⟨.t a, rfl, ⟨fun A' H2 m nw => ?_⟩⟩
    have h3 := m.t h2
    have r3 := Rs.mv2 m nw _ _ r2
    refine ⟨⟨xs, .inl (.inl h3), r3.len⟩, fun i d hd x hx => ?_⟩
    obtain ⟨y, q1, q2⟩ := r3.at_ hd
    have q3 := hx xs (.inl (.inl h3))
    rw [q1] at q3
    cases q3
    exact q2
  | str z =>
    cases e
    rw [r.si]
    refine ⟨.s z, rfl, ⟨fun A' H2 m nw => ⟨by simp [Sk.has], fun i d hd x hx => ?_⟩⟩⟩
    obtain ⟨c, h1, rfl⟩ := hx
    rw [List.getElem?_map, h1] at hd
    cases hd
    exact .s _
  | _ => cases e
theorem ito_zip {A : List Addr} {k1 k2 : Sk} {H : Hp} {ds es : List Dt} (w1 : Wk K A k1 H ds) (w2 : Wk K A k2 H es) : Ito K A (ItZ K k1 k2) H (List.zipWith (fun x y => .tup [x, y]) ds es) := fun A' H2 m nw i => by
  obtain ⟨h1, g1⟩ := w1.at_ A' H2 m nw
  obtain ⟨h2, g2⟩ := w2.at_ A' H2 m nw
  refine ⟨fun hl => ⟨_, _, h1, h2, ?_⟩, fun d hd => ?_⟩
  · rw [List.length_zipWith] at hl
    omega
  · obtain ⟨a, b, e1, e2, rfl⟩ := List.getElem?_zipWith_eq_some.mp hd
    have l1 := (List.getElem?_eq_some_iff.mp e1).1
    have l2 := (List.getElem?_eq_some_iff.mp e2).1
    refine ⟨⟨_, _, h1, h2, l1, l2⟩, fun v H3 hy => ?_⟩
    obtain ⟨T, x, y, rfl, hT, rfl, q1, q2⟩ := hy
    have sm : Same H2 (upd H2 T (.tup [x, y])) := same_new hT
    exact ⟨sm, .t upd_same (.c (R.sm sm _ _ (g1 i a e1 x q1)) (.c (R.sm sm _ _ (g2 i b e2 y q2)) .n))⟩
theorem ito_enum {A : List Addr} {k : Sk} {H : Hp} {ds : List Dt} (w1 : Wk K A k H ds) : Ito K A (ItE K k) H (enumD 0 ds) := fun A' H2 m nw i => by
  obtain ⟨h1, g1⟩ := w1.at_ A' H2 m nw
  refine ⟨fun hl => ?_, fun d hd => ?_⟩
  · rw [enumD_len] at hl
    rw [hl]
    exact h1
  · obtain ⟨x0, e1, rfl⟩ := enumD_at hd
    have l1 := (List.getElem?_eq_some_iff.mp e1).1
    refine ⟨⟨_, h1, l1⟩, fun v H3 hy => ?_⟩
    obtain ⟨T, x, rfl, hT, rfl, q1⟩ := hy
    have sm : Same H2 (upd H2 T (.tup [.int (i : Nat), x])) := same_new hT
    refine ⟨sm, .t upd_same (.c ?_ (.c (R.sm sm _ _ (g1 i x0 e1 x q1)) .n))⟩
    rw [Nat.zero_add]
    exact .i _
theorem s_iZip (h1 : SimA K Z ta Ta) : SimI K Z (iZz K ta) (piZip Ta) := ⟨fun A0 A σ ρ H G Q s h k => h1.run A0 A σ ρ H _ _ s h fun ds vs H1 x1 r1 q1 => by
  split at q1
  · obtain ⟨v, w, rfl, ra, rb⟩ := r1.two
    obtain ⟨es, e1, q1⟩ := oD_of q1
    obtain ⟨fs, e2, q1⟩ := oD_of q1
    obtain ⟨k1, rfl, w1⟩ := wk_of s x1 ra e1
    obtain ⟨k2, rfl, w2⟩ := wk_of s x1 rb e2
    have m : Mv A H1 H1 := ⟨fun _ _ _ e => e, (s.ex x1).g.lv⟩
    exact ⟨k1, k2, _, _, rfl, (w1.at_ A H1 m .rf).1, (w2.at_ A H1 m .rf).1, k _ _ H1 x1 (ito_zip w1 w2) q1⟩
  · exact False.elim q1⟩
theorem s_iEnum (h1 : SimA K Z ta Ta) : SimI K Z (iEe K ta) (piEnum Ta) := ⟨fun A0 A σ ρ H G Q s h k => h1.run A0 A σ ρ H _ _ s h fun ds vs H1 x1 r1 q1 => by
  split at q1
  · obtain ⟨v, rfl, ra⟩ := r1.one
    obtain ⟨es, e1, q1⟩ := oD_of q1
    obtain ⟨k1, rfl, w1⟩ := wk_of s x1 ra e1
    have m : Mv A H1 H1 := ⟨fun _ _ _ e => e, (s.ex x1).g.lv⟩
    exact ⟨k1, _, rfl, (w1.at_ A H1 m .rf).1, k _ _ H1 x1 (ito_enum w1) q1⟩
  · exact False.elim q1⟩
end
end Pv

set_option maxRecDepth 100000
set_option maxHeartbeats 4000000
namespace Pv
open PySem PySem.Spec PyProof.Rows L2 Xv
section
variable {P : Program} {w : World} {K : PySem.W.Frag} {mg : Str → Option Value} {base : Heap} {Z : Zc}
theorem Has.of {x qual : Str} {st : Stmt} {f : Addr} {fd : FuncData} {N ps : List Str} {k : Nat} {S : PSp} (F : Fun K x qual st f fd) (m : mg x = some (.ref f)) (Sc : FnScope N ps (defScope st)) (b : Binds K fd ps []) (hl : ∀ ds Q, S ds Q → ds.length = ps.length)
    (hb : ∀ (cdv : Value) (A : Around) (outer : List Env) (s : Shared) (H : Hp) (E : XK), Room k (A.deeper (envOfC qual (defScope st) s.heap.objs.size f cdv)) →
      ∃ t T, PSs (cxOf CX0 P w K mg base N qual (defScope st) f cdv A outer s H E).nox (defBody st) t ∧ SimS K Z t T ∧ ∀ ds Q, S ds Q → T { nx := fun _ => Q .non, rt := Q } (rho N.length ds)) :
    Has P w K mg base Z x (k + 1) ps S := ⟨f, fd, m, F.kp, b, ok_D F Sc hl hb⟩
end
/-! ### more of it: while; tuples of three; x == y of plain data; repr -/
def pPar3 (i j l : Nat) (T : PA') : PS' := fun P ρ => T ρ fun ds => oD (cls ds) fun
  | [a, b, c] => P.nx (((ρ.set i (.sh a)).set j (.sh b)).set l (.sh c))
  | _ => False
def pWhile (c : PT') (B : PS') : PS' := fun P ρ => ∃ W : Nat → List Sl → Prop, (∃ m, W m ρ) ∧ ∀ m ρ', W m ρ' → c ρ' fun b => if b = true then B { nx := fun ρ2 => ∃ m', m' < m ∧ W m' ρ2, rt := P.rt, bk := P.nx, ct := fun ρ2 => ∃ m', m' < m ∧ W m' ρ2 } ρ' else P.nx ρ'
/-! plain data -/
mutual
def pd : Dt → Option PyData
  | .non => some .none
  | .bl b => some (.bool b)
  | .int i => some (.int i)
  | .str x => some (.str x)
  | .lst ds => (pds ds).map .list
  | .tup ds => (pds ds).map .tuple
  | _ => none
def pds : List Dt → Option (List PyData)
  | [] => some []
  | d :: ds => match pd d, pds ds with
    | some p, some ps => some (p :: ps)
    | _, _ => none
end
section
variable {K : PySem.W.Frag} {A : List Addr} {H : Hp}
mutual
theorem pd_R : ∀ (d : Dt) (v : V) (p : PyData), R K A H d v → pd d = some p → DV H p v
  | .non, v, p, h, e => by
    simp only [pd, Option.some.injEq] at e
    subst e
    rw [h.nin]
    exact .n
  | .bl b, v, p, h, e => by
    simp only [pd, Option.some.injEq] at e
    subst e
    rw [h.bi]
    exact .b b
  | .int i, v, p, h, e => by
    simp only [pd, Option.some.injEq] at e
    subst e
    rw [h.ii]
    exact .i i
  | .str x, v, p, h, e => by
    simp only [pd, Option.some.injEq] at e
    subst e
    rw [h.si]
    exact .s x
  | .lst ds, v, p, h, e => by
    simp only [pd, Option.map_eq_some_iff] at e
    obtain ⟨ps, e1, rfl⟩ := e
    obtain ⟨a, xs, rfl, _, h1, h2⟩ := h.li
    exact .l h1 (pds_R ds xs ps h2 e1)
  | .tup ds, v, p, h, e => by
    simp only [pd, Option.map_eq_some_iff] at e
    obtain ⟨ps, e1, rfl⟩ := e
    obtain ⟨a, xs, rfl, h1, h2⟩ := h.ti
    exact .t h1 (pds_R ds xs ps h2 e1)
  | .obj _ _ _, v, p, h, e => by simp only [pd, reduceCtorEq] at e
  | .raw _, v, p, h, e => by simp only [pd, reduceCtorEq] at e
  | .rg _ _, v, p, h, e => by simp only [pd, reduceCtorEq] at e
  | .slot _, v, p, h, e => by simp only [pd, reduceCtorEq] at e
  | .fre _, v, p, h, e => by simp only [pd, reduceCtorEq] at e
theorem pds_R : ∀ (ds : List Dt) (xs : List V) (ps : List PyData), Rs K A H ds xs → pds ds = some ps → DVs H ps xs
  | [], xs, ps, h, e => by
    simp only [pds, Option.some.injEq] at e
    subst e
    rw [h.ni]
    exact .n
  | d :: ds, xs, ps, h, e => by
    obtain ⟨x, r, rfl, h1, h2⟩ := h.ci
    unfold pds at e
    cases e1 : pd d with
    | none => rw [e1] at e; cases e
    | some p =>
      cases e2 : pds ds with
      | none => rw [e1, e2] at e; cases e
      | some ps' =>
        rw [e1, e2] at e
        cases e
        exact .c (pd_R d x p h1 e1) (pds_R ds r ps' h2 e2)
end
end
/-- what a value is as plain data, an owned list too -/
def pdv (ρ : List Sl) : Dt → Option PyData
  | .slot i => match ρ[i]? with
    | some (.own ds) => (pds ds).map .list
    | _ => none
  | .fre ds => (pds ds).map .list
  | d => pd d
def qRepr : PL' := fun ρ xs Q => match xs with
  | [d] => oD (pdv ρ d) fun p => p.showable = true ∧ p.depth ≤ 40 ∧ p.shown.length ≤ sizeLine ∧ (∀ i, p = .int i → i.natAbs.log2 < 1920) ∧ Q (.str p.shown)
  | _ => False
def pEqD (f : Bool → Bool) : P2' := fun ρ x y Q => oD (pdv ρ x) fun p => oD (pdv ρ y) fun q => PyData.canLay0 p = true ∧ PyData.canLay0 q = true ∧ p.depth ≤ 40 ∧ q.depth ≤ 40 ∧ Q (.bl (f (PyData.eqv p q)))
section
variable {K : PySem.W.Frag} {Z : Zc} {ta : TA} {Ta : PA'} {tt : TT} {Tt : PT'} {ts : TS} {Ts : PS'} {i j l : Nat}
theorem pdv_R {A0 A : List Addr} {σ : L2.St} {ρ : List Sl} {H0 H : Hp} (s : Sg K Z A0 A σ H ρ) {d : Dt} {v : V} {p : PyData} (r : Rv K A σ ρ H0 H d v) (e : pdv ρ d = some p) : DV H p v := by
  have lst : ∀ {ds : List Dt}, asL ρ d = some ds → (pds ds).map PyData.list = some p → DV H p v := fun {ds} e1 e2 => by
    obtain ⟨a, xs, rfl, h1, h2⟩ := asL_R s r e1
    simp only [Option.map_eq_some_iff] at e2
    obtain ⟨ps, e3, rfl⟩ := e2
    exact .l h1 (pds_R ds xs ps h2 e3)
  cases d with
  | slot i =>
    simp only [pdv] at e
    split at e
    · rename_i ds q
      exact lst (by simp only [asL, q]) e
    · cases e
  | fre ds => exact lst rfl e
  | _ => exact pd_R _ _ _ r e
theorem q_repr : SimL K Z (rRepr K) qRepr := ⟨fun A0 A σ ρ H0 H xs ds G Q s0 s r h k => by
  unfold qRepr at h
  split at h
  · obtain ⟨v, rfl, r1⟩ := r.one
    obtain ⟨p, e, h1, h2, h3, h4, q⟩ := oD_of h
    exact ⟨v, p, rfl, pdv_R s r1 e, h1, h2, h3, h4, k _ _ H (.rf s.g.pk) (.of (.s _)) q⟩
  · exact False.elim h⟩
theorem s_eqD : Sim2 K Z Xv.rEqD (pEqD fun b => b) := ⟨fun A0 A σ ρ H0 H x y dx dy G Q s0 s r1 r2 h k => by
  obtain ⟨p, e1, h⟩ := oD_of h
  obtain ⟨q, e2, h1, h2, h3, h4, h⟩ := oD_of h
  exact ⟨p, q, pdv_R s r1 e1, pdv_R s r2 e2, h1, h2, h3, h4, k _ _ H (.rf s.g.pk) (.of (.b _)) h⟩⟩
theorem s_neD : Sim2 K Z Xv.rNeD (pEqD fun b => !b) := ⟨fun A0 A σ ρ H0 H x y dx dy G Q s0 s r1 r2 h k => by
  obtain ⟨p, e1, h⟩ := oD_of h
  obtain ⟨q, e2, h1, h2, h3, h4, h⟩ := oD_of h
  exact ⟨p, q, pdv_R s r1 e1, pdv_R s r2 e2, h1, h2, h3, h4, k _ _ H (.rf s.g.pk) (.of (.b _)) h⟩⟩
theorem s_par3 (h1 : SimA K Z ta Ta) : SimS K Z (tPar3 i j l ta) (pPar3 i j l Ta) := ⟨fun A0 A σ ρ H D P s h E => h1.run A0 A σ ρ H _ _ s h fun ds vs H1 x1 r1 q1 => by
  obtain ⟨es, e, q⟩ := oD_of q1
  have r := cls_R s.g r1 e
  split at q
  · rename_i a b c
    obtain ⟨x, r2, rfl, ra, rb'⟩ := r.ci
    obtain ⟨y, r3, rfl, rb, rc'⟩ := rb'.ci
    obtain ⟨z, r4, rfl, rc, rn⟩ := rc'.ci
    cases rn.ni
    exact ⟨x, y, z, rfl, E.nx A _ _ H1 ((((s.ex x1).put ra).put rb).put rc) (Wr.ex s.g x1) q⟩
  · exact False.elim q⟩
theorem s_while (hc : SimT K Z tt Tt) (hb : SimS K Z ts Ts) : SimS K Z (tWhile tt ts) (pWhile Tt Ts) := ⟨fun A0 A σ ρ H D P s h E => by
  obtain ⟨W, ⟨m0, w0⟩, turn⟩ := h
  refine ⟨fun m σ' H' => ∃ A' ρ', Sg K Z A0 A' σ' H' ρ' ∧ Wr Z A0 A H A' H' ∧ W m ρ', ⟨m0, A, ρ, s, Wr.ex s.g (.rf s.g.pk), w0⟩, ?_⟩
  rintro m σ' H' ⟨A', ρ', s', w', q⟩
  refine hc.run A0 A' σ' ρ' H' _ _ s' (turn m ρ' q) fun b H2 x2 q2 => ?_
  have w2 : Wr Z A0 A H A' H2 := w'.tr (Wr.ex s'.g x2)
  cases b with
  | false => exact E.nx A' σ' ρ' H2 (s'.ex x2) w2 q2
  | true =>
    refine ⟨fun σ3 H3 => ∃ m', m' < m ∧ ∃ A3 ρ3, Sg K Z A0 A3 σ3 H3 ρ3 ∧ Wr Z A0 A H A3 H3 ∧ W m' ρ3, fun _ _ z => z, ?_⟩
    exact hb.run A0 A' σ' ρ' H2 _ _ (s'.ex x2) q2 ⟨fun A3 σ3 ρ3 H3 s3 w3 h3 => by
      obtain ⟨m', hm, h3⟩ := h3
      exact ⟨m', hm, A3, ρ3, s3, w2.tr w3, h3⟩, fun A3 σ3 ρ3 H3 s3 w3 h3 => E.nx A3 σ3 ρ3 H3 s3 (w2.tr w3) h3, fun A3 σ3 ρ3 H3 s3 w3 h3 => by
      obtain ⟨m', hm, h3⟩ := h3
      exact ⟨m', hm, A3, ρ3, s3, w2.tr w3, h3⟩, fun A3 H3 d v w3 r3 h3 => E.rt A3 H3 d v (w2.tr w3) r3 h3⟩⟩
end
end Pv

set_option maxRecDepth 100000
set_option maxHeartbeats 4000000
namespace Pv
open PySem PySem.Spec PyProof.Rows L2 Xv
/-! ### comprehensions and loops over plain things: what they come to -/
section
variable {g : PG'} {Tt : PT'} {Te : PE'} {ρ : List Sl} {Q : List Dt → Prop}
/-- one turn -/
def turnC (g : PG') (Tt : PT') (Te : PE') (ρ : List Sl) (d : Dt) (Y : Dt → Prop) (S : Prop) : Prop := g d ρ fun ρ1 => Tt ρ1 fun bb => if bb = true then Te ρ1 fun y => oD (cl y) Y else S
theorem lc_inv {α : Type} (e : α → Dt) (I : List α → List Dt → Prop) (h : ∀ c rest acc, I (c :: rest) acc → ∀ (Y : Dt → Prop) (S : Prop), (∀ y, I rest (acc ++ [y]) → Y y) → (I rest acc → S) → turnC g Tt Te ρ (e c) Y S)
    (hl : ∀ c rest acc, I (c :: rest) acc → acc.length < sizeLine) (q : ∀ acc, I [] acc → Q acc) : ∀ (cs : List α) (acc : List Dt), I cs acc → pLcGo g Tt Te ρ Q (cs.map e) acc
  | [], acc, i => q acc i
  | c :: rest, acc, i => h c rest acc i _ _ (fun y iy => ⟨hl c rest acc i, lc_inv e I h hl q rest (acc ++ [y]) iy⟩) fun i2 => lc_inv e I h hl q rest acc i2
theorem lc_fm {α : Type} (e : α → Dt) (b : α → Bool) (f : α → Dt) {cs : List α} {acc : List Dt} (h : ∀ c ∈ cs, ∀ (Y : Dt → Prop) (S : Prop), (b c = true → Y (f c)) → (b c = false → S) → turnC g Tt Te ρ (e c) Y S)
    (hl : acc.length + cs.length ≤ 1000000) (q : Q (acc ++ (cs.filter b).map f)) : pLcGo g Tt Te ρ Q (cs.map e) acc := by
  refine lc_inv e (fun rest a => (∃ pre, cs = pre ++ rest ∧ a = acc ++ (pre.filter b).map f)) (fun c rest a ⟨pre, e1, e2⟩ Y S y s => ?_) (fun c rest a ⟨pre, e1, e2⟩ => ?_) (fun a ⟨pre, e1, e2⟩ => ?_) cs acc ⟨[], rfl, by simp⟩
  · refine h c (by rw [e1]; simp) Y S (fun hb => y _ ⟨pre ++ [c], by simp [e1], ?_⟩) fun hb => s ⟨pre ++ [c], by simp [e1], ?_⟩
    · rw [e2, List.filter_append, List.map_append, List.append_assoc]
      simp [hb]
    · rw [e2, List.filter_append, List.map_append]
      simp [hb]
  · have l1 := List.length_filter_le b pre
    have l2 : cs.length = pre.length + (rest.length + 1) := by rw [e1]; simp
    rw [e2, List.length_append, List.length_map, sizeLine_eq]
    omega
  · rw [e2]
    have e3 : cs = pre := by simpa using e1
    rw [← e3]
    exact q
theorem lc_map {α : Type} (e : α → Dt) (f : α → Dt) {cs : List α} {acc : List Dt} (h : ∀ c ∈ cs, ∀ (Y : Dt → Prop) (S : Prop), Y (f c) → turnC g Tt Te ρ (e c) Y S) (hl : acc.length + cs.length ≤ 1000000) (q : Q (acc ++ cs.map f)) : pLcGo g Tt Te ρ Q (cs.map e) acc :=
  lc_fm e (fun _ => true) f (fun c hc Y S y _ => h c hc Y S (y rfl)) hl (by rw [List.filter_eq_self.mpr (fun _ _ => rfl)]; exact q)
end
section
variable {g : PG'} {B : PS'} {P : Pe}
theorem for_inv {α : Type} (e : α → Dt) (I : List α → List Sl → Prop) (h : ∀ c rest ρ, I (c :: rest) ρ → ∀ nx : List Sl → Prop, (∀ ρ', I rest ρ' → nx ρ') → g (e c) ρ fun ρ1 => B { nx := nx, rt := P.rt, bk := P.nx, ct := nx } ρ1)
    (q : ∀ ρ, I [] ρ → P.nx ρ) : ∀ (cs : List α) (ρ : List Sl), I cs ρ → pForGo g B P (cs.map e) ρ
  | [], ρ, i => q ρ i
  | c :: rest, ρ, i => h c rest ρ i _ fun ρ' i' => for_inv e I h q rest ρ' i'
end
theorem ite2 {b : Bool} {A B : Prop} (h1 : b = true → A) (h2 : b = false → B) : if b = true then A else B := by
  cases b with
  | true => exact h1 rfl
  | false => exact h2 rfl
theorem dec2 {p : Prop} [Decidable p] {A B : Prop} (h1 : p → A) (h2 : ¬ p → B) : if decide p = true then A else B := by
  by_cases hp : p
  · rw [if_pos (decide_eq_true hp)]
    exact h1 hp
  · rw [if_neg (fun z => hp (of_decide_eq_true z))]
    exact h2 hp
theorem allS_sgn : ∀ cs : List Nat, allS (cs.map sgn) = some (cs.map fun c => ⟨#[c]⟩)
  | [] => rfl
  | c :: cs => by
    show (allS (cs.map sgn)).map _ = _
    rw [allS_sgn cs]
    rfl
theorem allS_strs : ∀ cs : List Str, allS (cs.map .str) = some cs
  | [] => rfl
  | c :: cs => by
    show (allS (cs.map .str)).map _ = _
    rw [allS_strs cs]
    rfl
theorem allI_ints : ∀ cs : List Int, allI (cs.map .int) = some cs
  | [] => rfl
  | c :: cs => by
    show (allI (cs.map .int)).map _ = _
    rw [allI_ints cs]
    rfl
theorem allI_map {α : Type} (f : α → Int) : ∀ cs : List α, allI (cs.map fun c => .int (f c)) = some (cs.map f)
  | [] => rfl
  | c :: cs => by
    show (allI (cs.map _)).map _ = _
    rw [allI_map f cs]
    rfl
theorem allS_map {α : Type} (f : α → Str) : ∀ cs : List α, allS (cs.map fun c => .str (f c)) = some (cs.map f)
  | [] => rfl
  | c :: cs => by
    show (allS (cs.map _)).map _ = _
    rw [allS_map f cs]
    rfl
theorem joinL_one : ∀ ys : List Nat, TL.joinL [] (ys.map fun c => [c]) = ys
  | [] => rfl
  | [_] => rfl
  | a :: b :: r => by
    show a :: ([] ++ TL.joinL [] ((b :: r).map fun c => [c])) = _
    rw [joinL_one (b :: r)]
    rfl
theorem join_one (ys : List Nat) : Txt.join "" (ys.map fun c => (⟨#[c]⟩ : Str)) = ⟨ys.toArray⟩ := by
  have h : TL.tl (Str.join "" (ys.map fun c => (⟨#[c]⟩ : Str))) = TL.joinL (TL.tl "") ((ys.map fun c => (⟨#[c]⟩ : Str)).map TL.tl) := TL.tl_join _ _
  rw [List.map_map] at h
  have e : (TL.tl ∘ fun c : Nat => (⟨#[c]⟩ : Str)) = fun c => [c] := rfl
  have e0 : TL.tl "" = [] := rfl
  rw [e, e0, joinL_one] at h
  rw [TL.join_eq]
  generalize Str.join "" (ys.map fun c => (⟨#[c]⟩ : Str)) = z at *
  obtain ⟨⟨l⟩⟩ := z
  have h2 : l = ys := h
  rw [h2]
theorem sum_one : ∀ ys : List Nat, ((ys.map fun c => (⟨#[c]⟩ : Str)).map (fun x => x.length)).sum = ys.length
  | [] => rfl
  | a :: r => by
    show 1 + ((r.map _).map _).sum = r.length + 1
    rw [sum_one r]
    omega
/-! ### two walks in one comprehension -/
def pLc2In (g1 : PG') (Tt1 : PT') (Te : PE') (ρ : List Sl) (K : List Dt → Prop) : List Dt → List Dt → Prop
  | [], acc => K acc
  | d :: ds, acc => g1 d ρ fun ρ1 => Tt1 ρ1 fun b => if b = true then Te ρ1 fun y => oD (cl y) fun y' => acc.length < sizeLine ∧ pLc2In g1 Tt1 Te ρ K ds (acc ++ [y']) else pLc2In g1 Tt1 Te ρ K ds acc
def pLc2Go (g : PG') (Tt : PT') (I1 : List Sl → (List Dt → Prop) → Prop) (g1 : PG') (Tt1 : PT') (Te : PE') (vs1 : List Nat) (ρ : List Sl) (Q : List Dt → Prop) : List Dt → List Dt → Prop
  | [], acc => Q acc
  | d :: ds, acc => g d ρ fun ρ1 => Tt ρ1 fun b => if b = true then I1 ρ1 fun es => pLc2In g1 Tt1 Te (wipeP ρ1 vs1) (fun acc' => pLc2Go g Tt I1 g1 Tt1 Te vs1 ρ Q ds acc') es acc else pLc2Go g Tt I1 g1 Tt1 Te vs1 ρ Q ds acc
def pLc2 (I : List Sl → (List Dt → Prop) → Prop) (g : PG') (Tt : PT') (I1 : List Sl → (List Dt → Prop) → Prop) (g1 : PG') (Tt1 : PT') (Te : PE') (vs vs1 : List Nat) : PE' := fun ρ Q => I ρ fun ds => pLc2Go g Tt I1 g1 Tt1 Te vs1 (wipeP ρ vs) (fun acc => Q (.fre acc)) ds []
/-- a written tuple of texts -/
def pInW (a : Addr) (ws : List Str) (f : Bool → Bool) : P2' := fun _ x y Q => ∃ z, x = .str z ∧ y = .raw (.ref a) ∧ Q (.bl (f (decide (z ∈ ws))))
theorem inV_strs {z : Str} : ∀ {ws : List Str}, inV (.str z) (ws.map V.str) = decide (z ∈ ws)
  | [] => rfl
  | y :: ws => by
    show (eqV (.str y) (.str z) || inV (.str z) (ws.map V.str)) = _
    rw [inV_strs]
    show ((y == z) || decide (z ∈ ws)) = _
    rw [Bool.eq_iff_iff]
    simp only [Bool.or_eq_true, beq_iff_eq, decide_eq_true_eq, List.mem_cons]
    exact ⟨fun h => h.imp Eq.symm id, fun h => h.imp Eq.symm id⟩
theorem flat_strs : ∀ {ws : List Str}, (ws.map V.str).all flatV = true
  | [] => rfl
  | y :: ws => by
    show (true && (ws.map V.str).all flatV) = true
    rw [flat_strs]
    rfl
/-- a text in a list or tuple of texts -/
def pInL (f : Bool → Bool) : P2' := fun ρ x y Q => match x, y with
  | .str z, .tup ds => oD (allS ds) fun ws => Q (.bl (f (decide (z ∈ ws))))
  | .str z, d => oD (asL ρ d) fun ds => oD (allS ds) fun ws => Q (.bl (f (decide (z ∈ ws))))
  | _, _ => False
section
variable {K : PySem.W.Frag} {Z : Zc} {a : Addr} {ws : List Str}
theorem s_inW (h : ∀ H, SqT K H a (ws.map V.str)) : Sim2 K Z (rIn K false) (pInW a ws fun b => b) := ⟨fun A0 A σ ρ H0 H x y dx dy G Q s0 s r1 r2 h2 k => by
  obtain ⟨z, rfl, rfl, q⟩ := h2
  rw [r1.si, r2.wi]
  refine ⟨a, ws.map V.str, rfl, .inr (h H), rfl, flat_strs, k _ _ H (.rf s.g.pk) (.of (.b _)) ?_⟩
  show Q (.bl (inV _ _))
  rw [inV_strs]
  exact q⟩
theorem s_inL : Sim2 K Z (rIn K false) (pInL fun b => b) := ⟨fun A0 A σ ρ H0 H x y dx dy G Q s0 s r1 r2 h k => by
  unfold pInL at h
  split at h
  · rename_i z ds
    obtain ⟨ws, e, q⟩ := oD_of h
    obtain ⟨a, xs, rfl, h1, h2⟩ := r2.ti.ti
    rw [allS_Rs h2 e] at h1
    rw [r1.si]
    refine ⟨a, ws.map V.str, rfl, .inr (.inl (.inl h1)), rfl, flat_strs, k _ _ H (.rf s.g.pk) (.of (.b _)) ?_⟩
    show Q (.bl (inV _ _))
    rw [inV_strs]
    exact q
  · rename_i z _
    obtain ⟨ds, e1, h⟩ := oD_of h
    obtain ⟨ws, e, q⟩ := oD_of h
    obtain ⟨a, xs, rfl, h1, h2⟩ := asL_R s r2 e1
    rw [allS_Rs h2 e] at h1
    rw [r1.si]
    refine ⟨a, ws.map V.str, rfl, .inl (.inl (.inl h1)), rfl, flat_strs, k _ _ H (.rf s.g.pk) (.of (.b _)) ?_⟩
    show Q (.bl (inV _ _))
    rw [inV_strs]
    exact q
  · exact False.elim h⟩
theorem s_ninL : Sim2 K Z (rIn K true) (pInL fun b => !b) := ⟨fun A0 A σ ρ H0 H x y dx dy G Q s0 s r1 r2 h k => by
  unfold pInL at h
  split at h
  · rename_i z ds
    obtain ⟨ws, e, q⟩ := oD_of h
    obtain ⟨a, xs, rfl, h1, h2⟩ := r2.ti.ti
    rw [allS_Rs h2 e] at h1
    rw [r1.si]
    refine ⟨a, ws.map V.str, rfl, .inr (.inl (.inl h1)), rfl, flat_strs, k _ _ H (.rf s.g.pk) (.of (.b _)) ?_⟩
    show Q (.bl (!inV _ _))
    rw [inV_strs]
    exact q
  · rename_i z _
    obtain ⟨ds, e1, h⟩ := oD_of h
    obtain ⟨ws, e, q⟩ := oD_of h
    obtain ⟨a, xs, rfl, h1, h2⟩ := asL_R s r2 e1
    rw [allS_Rs h2 e] at h1
    rw [r1.si]
    refine ⟨a, ws.map V.str, rfl, .inl (.inl (.inl h1)), rfl, flat_strs, k _ _ H (.rf s.g.pk) (.of (.b _)) ?_⟩
    show Q (.bl (!inV _ _))
    rw [inV_strs]
    exact q
  · exact False.elim h⟩
end
end Pv

set_option maxRecDepth 100000
set_option maxHeartbeats 4000000
namespace Pv
open PySem PySem.Spec PyProof.Rows L2 Xv
section
variable {K : PySem.W.Frag}
theorem kit_ss : PySem.W.kitOne K (.type "str") (.type "str") = some true := by rfl
theorem kit_si : PySem.W.kitOne K (.type "str") (.type "int") = some false := by rfl
theorem kit_sb : PySem.W.kitOne K (.type "str") (.type "bool") = some false := by rfl
theorem kit_st : PySem.W.kitOne K (.type "str") (.type "tuple") = some false := by rfl
theorem kit_ii : PySem.W.kitOne K (.type "int") (.type "int") = some true := by rfl
theorem kit_ib : PySem.W.kitOne K (.type "int") (.type "bool") = some false := by rfl
theorem kit_is : PySem.W.kitOne K (.type "int") (.type "str") = some false := by rfl
theorem kit_it : PySem.W.kitOne K (.type "int") (.type "tuple") = some false := by rfl
theorem kit_tt : PySem.W.kitOne K (.type "tuple") (.type "tuple") = some true := by rfl
theorem kit_ts : PySem.W.kitOne K (.type "tuple") (.type "str") = some false := by rfl
theorem kit_ti : PySem.W.kitOne K (.type "tuple") (.type "int") = some false := by rfl
theorem kit_bi : PySem.W.kitOne K (.type "bool") (.type "int") = some true := by rfl
theorem kit_bb : PySem.W.kitOne K (.type "bool") (.type "bool") = some true := by rfl
theorem kit_bs : PySem.W.kitOne K (.type "bool") (.type "str") = some false := by rfl
theorem kit_bt : PySem.W.kitOne K (.type "bool") (.type "tuple") = some false := by rfl
end
/-! ### lots, cases, sayings as plain things -/
/-- the signs of z that stand in y -/
def pickS (z y : Str) : Str := ⟨(z.cps.toList.filter fun c => decide (c ∈ y.cps.toList)).toArray⟩
/-- y has some of z's signs, in their order -/
def Part (z y : Str) : Prop := y.cps.toList.Sublist z.cps.toList
theorem pick_list : ∀ {z y : List Nat}, y.Sublist z → z.Nodup → z.filter (fun c => decide (c ∈ y)) = y
  | _, _, .slnil, _ => rfl
  | _, _, .cons (l₁ := y) (l₂ := z) a h, n => by
    obtain ⟨n1, n2⟩ := List.nodup_cons.mp n
    have na : a ∉ y := fun z => n1 (h.subset z)
    rw [List.filter_cons_of_neg (by simpa using na)]
    exact pick_list h n2
  | _, _, .cons₂ (l₁ := y) (l₂ := z) a h, n => by
    obtain ⟨n1, n2⟩ := List.nodup_cons.mp n
    rw [List.filter_cons_of_pos (by simp)]
    congr 1
    have e : z.filter (fun c => decide (c ∈ a :: y)) = z.filter (fun c => decide (c ∈ y)) := by
      refine List.filter_congr fun c hc => ?_
      have : c ≠ a := fun q => n1 (q ▸ hc)
      simp [this]
    rw [e]
    exact pick_list h n2
theorem str_ext {a b : Str} (h : a.cps.toList = b.cps.toList) : a = b := by
  obtain ⟨⟨l⟩⟩ := a
  obtain ⟨⟨m⟩⟩ := b
  have e : l = m := h
  rw [e]
theorem pick_part {z y : Str} (h : Part z y) (n : z.cps.toList.Nodup) : y = pickS z y := by
  refine str_ext ?_
  show y.cps.toList = (z.cps.toList.filter fun c => decide (c ∈ y.cps.toList))
  rw [pick_list h n]
def abc : Str := "abcdefghijklmnopqrstuvwxyz"
theorem abc_nd : abc.cps.toList.Nodup := by decide +kernel
/-- the cases of a book -/
structure CaseOk (z : Str) : Prop where
  p : Part abc z
  lo : 2 ≤ z.cps.toList.length
  hi : z.cps.toList.length ≤ 6
theorem CaseOk.nd {z : Str} (h : CaseOk z) : z.cps.toList.Nodup := abc_nd.sublist h.p
theorem len_cps (z : Str) : z.length = z.cps.toList.length := by
  show z.cps.size = _
  simp
/-- a saying -/
structure Say where
  w : Str
  a : Str
  b : Str
  n : Option Int
def sayD (s : Say) : Dt := .tup ([.str s.w, .str s.a, .str s.b] ++ (s.n.map Dt.int).toList)
structure SayOk (z : Str) (s : Say) : Prop where
  a : Part z s.a
  b : Part z s.b
  k : ((s.w = "more" ∨ s.w = "least" ∨ s.w = "same") ∧ s.n = none) ∨ (s.w = "times" ∧ ∃ n, s.n = some n ∧ 2 ≤ n ∧ n ≤ 9)
/-- the times of a saying -/
def Say.t (s : Say) : Int := s.n.getD 1
def lotT (a : Str) : Str := if a.cps.toList = [] then "-" else a
def lineT (s : Say) : Str := Txt.join " " ([s.w, lotT s.a, lotT s.b] ++ (s.n.map fun n => (toString n : Str)).toList)
def textT (z : Str) (ss : List Say) : Str := Txt.join "\n" (("cases " ++ z) :: ss.map lineT)
theorem pds_strs : ∀ cs : List Str, pds (cs.map .str) = some (cs.map .str)
  | [] => rfl
  | c :: cs => by
    show (match pd (.str c), pds (cs.map .str) with
      | some p, some ps => some (p :: ps)
      | _, _ => none) = _
    rw [pds_strs cs]
    rfl
end Pv

set_option maxRecDepth 100000
set_option maxHeartbeats 4000000
namespace Pv
open PySem PySem.Spec PyProof.Rows L2 Xv
/-! ### the greatest of a list; a range under a name -/
def qMaxL : PL' := fun ρ xs Q => match xs with
  | [d] => oD (asL ρ d) fun ds => oD (allI ds) fun ns => 0 < ns.length ∧ ∀ m, m ∈ ns → (∀ y, y ∈ ns → y ≤ m) → Q (.int m)
  | _ => False
def rRg1 : List V → Hp → VK → Prop := fun vs H Q => ∃ j, vs = [V.int j] ∧ ∀ p, H p = none → Q (.ref p) (upd H p (.rng 0 j))
def qRg1 : PL' := fun _ xs Q => match xs with
  | [.int j] => Q (.rg 0 j)
  | _ => False
def iRg (t : TE) : TI := fun σ H R => t σ H fun x H1 => ∃ a lo hi, x = .ref a ∧ H1 a = some (.rng lo hi) ∧ (-(2 ^ 62) ≤ lo ∧ lo < 2 ^ 62 ∧ -(2 ^ 62) ≤ hi ∧ hi < 2 ^ 62) ∧ R (Itr lo (hi - lo).toNat) H1
def piRg (T : PE') : List Sl → (List Dt → Prop) → Prop := fun ρ Q => T ρ fun
  | .rg lo hi => (-(2 ^ 62) ≤ lo ∧ lo < 2 ^ 62 ∧ -(2 ^ 62) ≤ hi ∧ hi < 2 ^ 62) ∧ Q (rng lo (hi - lo).toNat)
  | _ => False
section
variable {K : PySem.W.Frag} {Z : Zc} {t : TE} {T : PE'}
theorem q_maxL : SimL K Z (rMax K) qMaxL := ⟨fun A0 A σ ρ H0 H xs ds G Q s0 s r h k => by
  unfold qMaxL at h
  split at h
  · obtain ⟨v, rfl, r1⟩ := r.one
    obtain ⟨es, e, h⟩ := oD_of h
    obtain ⟨ns, e2, h⟩ := oD_of h
    obtain ⟨a, xs, rfl, h1, h2⟩ := asL_R s r1 e
    rw [allI_Rs h2 e2] at h1
    exact ⟨a, ns, rfl, .inl (.inl h1), h.1, fun m hm hy => k _ _ H (.rf s.g.pk) (.of (.i _)) (h.2 m hm hy)⟩
  · exact False.elim h⟩
theorem q_rg1 : SimL K Z rRg1 qRg1 := ⟨fun A0 A σ ρ H0 H xs ds G Q s0 s r h k => by
  unfold qRg1 at h
  split at h
  · obtain ⟨v, rfl, r1⟩ := r.one
    refine ⟨_, by rw [r1.ii], fun p hp => ?_⟩
    exact k (.rg 0 _) _ _ (Ex.new s.g.pk hp) (.of (.gg upd_same)) h
  · exact False.elim h⟩
theorem s_iRg (h1 : SimE K Z t T) : SimI K Z (iRg t) (piRg T) := ⟨fun A0 A σ ρ H G Q s h k => h1.run A0 A σ ρ H _ _ s h fun d v H1 x1 r1 q1 => by
  cases d with
  | rg lo hi =>
    obtain ⟨hb, q⟩ := q1
    obtain ⟨a, rfl, e⟩ := (show R K A H1 (.rg lo hi) v from r1).gi
    exact ⟨a, lo, hi, rfl, e, hb, k _ _ H1 x1 ito_rng q⟩
  | _ => exact False.elim q1⟩
end
section
variable {X : Cx} {tg : Expr}
theorem cr_range1 : CallR X (.type "range") rRg1 := by
  intro pins s σ H vs us Q I r h
  obtain ⟨j, rfl, q⟩ := h
  cases r with
  | cons r rr =>
    cases rr
    obtain ⟨t, rfl⟩ := r
    refine call_range_1 ⟨.ref s.heap.objs.size, upd H s.heap.objs.size (.rng 0 j), I.laid (t' := s.toks + 1 + 1) (fun b o e => Heap.get?_push_of_some _ e) (Nat.le_refl _) ?_, rfl, q _ (I.hok.fresh (Nat.le_refl _))⟩
    exact ⟨s.toks, t, s.toks + 1, Heap.get?_push_size _ rfl⟩
theorem pi_rg {l : Expr} {tl : TE} (hl : PE X l tl) : PI X tg l (iRg tl) := by
  refine ⟨fun pins s σ H R I h => ?_⟩
  refine thn (hl.run pins s σ H _ I h) fun v s1 ⟨x, H1, I1, r1, q1⟩ => ?_
  obtain ⟨a, lo, hi, e, ha, ⟨h1, h2, h3, h4⟩, q⟩ := q1
  subst e
  cases r1
  obtain ⟨t, u, w, ho⟩ := I1.hok a _ ha
  refine wpAny_pyIter_range (show IsRange s1.heap a lo hi 1 t u w from ho) (small_one h1 h2 h3 h4) ?_
  refine ⟨s1.heap.objs.size, [s1.heap.objs.size], _, _, H1, rfl, I1.kept (t' := s1.toks) fun b o e => Heap.get?_push_of_some _ e, turn_range _ lo (hi - lo).toNat, ?_, fun b hb => ?_, q⟩
  · have e1 : lo + ((0 : Nat) : Int) * 1 = lo := by simp
    have e2 : (((hi - lo).toNat : Nat) : Int) - ((0 : Nat) : Int) = Builtin.Range.rangeSize lo hi 1 := by rw [rangeSize_one]; split <;> omega
    show IsRangeIter _ _ (lo + ((0 : Nat) : Int) * 1) ((((hi - lo).toNat : Nat) : Int) - ((0 : Nat) : Int)) 1
    rw [e1, e2]
    exact Heap.get?_push_size _ rfl
  · have e : b = s1.heap.objs.size := by simpa using hb
    subst e
    exact I1.fpOk (Nat.le_refl _) (I1.hok.fresh (Nat.le_refl _))
end
/-! ### x.f of an object; isinstance of it -/
def pFld (C : Addr) (f : Str) (T : PE') : PE' := fun ρ Q => T ρ fun
  | .obj C' ks ds => C' = C ∧ ks.length = ds.length ∧ oD ((ks.zip ds).lookup f) Q
  | _ => False
theorem look_Rs {K : PySem.W.Frag} {A : List Addr} {H : Hp} {f : Str} {d : Dt} : ∀ {ks : List Str} {ds : List Dt} {xs : List V}, Rs K A H ds xs → (ks.zip ds).lookup f = some d → ∃ v, (ks.zip xs).lookup f = some v ∧ R K A H d v
  | [], ds, xs, r, e => by cases e
  | k :: ks, [], xs, r, e => by cases e
  | k :: ks, c :: ds, xs, r, e => by
    obtain ⟨x, rr, rfl, h1, h2⟩ := r.ci
    rw [List.zip_cons_cons, List.lookup_cons] at e ⊢
    cases hk : f == k with
    | true =>
      rw [hk] at e
      cases e
      exact ⟨x, rfl, h1⟩
    | false =>
      rw [hk] at e
      exact look_Rs h2 e
structure ClsO (K : PySem.W.Frag) (C : Addr) : Prop where
  c : Cls K C
  f1 : PySem.W.findIn K (.ref C) "__class__" = some (some (.builtin "object.__class__"))
  f2 : PySem.W.specialIn K (.builtin "object.__class__") "__get__" = some (some (.builtin "getset_descriptor.__get__"))
  f3 : PySem.W.takesIn K (.builtin "object.__class__") = some true
  f4 : PySem.W.mroIn K C (.type "object") = some true
  kit : PySem.W.kitOne K (.ref C) (.ref C) = some true
def qIsO (C : Addr) : PL' := fun _ xs Q => match xs with
  | [.obj C' _ _, .raw (.ref D)] => C' = C ∧ D = C ∧ Q (.bl true)
  | _ => False
section
variable {K : PySem.W.Frag} {Z : Zc} {t : TE} {T : PE'} {C : Addr} {f : Str}
theorem s_fld (c : Cls K C) (n : NoAttr K C f) (h1 : SimE K Z t T) : SimE K Z (tFld K t f) (pFld C f T) := ⟨fun A0 A σ ρ H G Q s h k => h1.run A0 A σ ρ H _ _ s h fun d v H1 x1 r1 q1 => by
  cases d with
  | obj C' ks ds =>
    obtain ⟨rfl, hl, q⟩ := q1
    obtain ⟨d, e, q⟩ := oD_of q
    obtain ⟨a, dx, xs, rfl, h2, r2⟩ := r1.oi.oi
    obtain ⟨y, ey, ry⟩ := look_Rs r2 e
    exact ⟨a, C', dx, ks.zip xs, y, rfl, h2, c, n, ey, k d y H1 x1 (.of ry) q⟩
  | _ => exact False.elim q1⟩
theorem q_isO (c : ClsO K C) : SimL K Z (rIsi K) (qIsO C) := ⟨fun A0 A σ ρ H0 H xs ds G Q s0 s r h k => by
  unfold qIsO at h
  split at h
  · rename_i C' ks ds D
    obtain ⟨rfl, rfl, q⟩ := h
    obtain ⟨x, r2, rfl, h1, h2⟩ := r
    obtain ⟨y, r3, rfl, h3, h4⟩ := h2
    have e4 : r3 = [] := h4
    subst e4
    have e3 := h3.wi
    subst e3
    obtain ⟨a, dx, xs, rfl, e, r2⟩ := h1.oi.oi
    exact ⟨.ref a, .ref D, .ref D, .ref D, true, rfl, .own _, .base (.ins e c.c c.f1 c.f2 c.f3 c.f4), c.kit, k _ _ H (.rf s.g.pk) (.of (.b _)) q⟩
  · exact False.elim h⟩
end
/-! a property -/
section
variable {K : PySem.W.Frag} {Z : Zc} {t : TE} {T : PE'} {C : Addr} {S : PSp}
def pProp (C : Addr) (S : PSp) (T : PE') : PE' := fun ρ Q => T ρ fun
  | .obj C' ks ds => C' = C ∧ S [.obj C' ks ds] Q
  | _ => False
theorem s_prop (h1 : SimE K Z t T) : SimE K Z (tProp C (spD K Z S) [] E0 t) (pProp C S T) := ⟨fun A0 A σ ρ H G Q s h k => h1.run A0 A σ ρ H _ _ s h fun d v H1 x1 r1 q1 => by
  cases d with
  | obj C' ks ds =>
    obtain ⟨rfl, q⟩ := q1
    obtain ⟨a, dx, xs, rfl, h2, r2⟩ := r1.oi.oi
    exact ⟨a, dx, ks.zip xs, rfl, h2, A, [.obj C' ks ds], Q, (s.ex x1).g, .c (.o h2 r2) .n, q, fun d v H' x r' q' => k d v H' (x1.tr x) (.of r') q'⟩
  | _ => exact False.elim q1⟩
end
/-! ### a field of a new object is set -/
mutual
def noO : Dt → Bool
  | .obj _ _ _ => false
  | .lst ds => noOs ds
  | .tup ds => noOs ds
  | _ => true
def noOs : List Dt → Bool
  | [] => true
  | d :: ds => noO d && noOs ds
end
section
variable {K : PySem.W.Frag} {Z : Zc} {A0 A : List Addr} {H : Hp} {σ : L2.St} {ρ : List Sl} {x C dx : Addr} {fs gs : List (Str × V)}
mutual
theorem R.uf (hx : H x = some (.ins C dx fs)) : ∀ (d : Dt) (v : V), noO d = true → R K A H d v → R K A (upd H x (.ins C dx gs)) d v
  | .non, v, n, h => by simpa only [R] using h
  | .bl _, v, n, h => by simpa only [R] using h
  | .int _, v, n, h => by simpa only [R] using h
  | .str _, v, n, h => by simpa only [R] using h
  | .raw _, v, n, h => by simpa only [R] using h
  | .slot _, v, n, h => by simpa only [R] using h
  | .fre _, v, n, h => by simpa only [R] using h
  | .obj _ _ _, v, n, h => by cases n
  | .rg _ _, v, n, h => by
    obtain ⟨a, rfl, e⟩ := h.gi
    refine .gg ?_
    rw [upd_ne (fun z => by rw [z, hx] at e; cases e)]
    exact e
  | .lst ds, v, n, h => by
    obtain ⟨a, xs, rfl, na, e, q⟩ := h.li
    refine .l na ?_ (Rs.uf hx ds xs n q)
    rw [upd_ne (fun z => by rw [z, hx] at e; cases e)]
    exact e
  | .tup ds, v, n, h => by
    obtain ⟨a, xs, rfl, e, q⟩ := h.ti
    refine .t ?_ (Rs.uf hx ds xs n q)
    rw [upd_ne (fun z => by rw [z, hx] at e; cases e)]
    exact e
theorem Rs.uf (hx : H x = some (.ins C dx fs)) : ∀ (ds : List Dt) (xs : List V), noOs ds = true → Rs K A H ds xs → Rs K A (upd H x (.ins C dx gs)) ds xs
  | [], xs, n, h => by simpa only [Rs] using h
  | d :: ds, xs, n, h => by
    obtain ⟨y, r, rfl, h1, h2⟩ := h.ci
    have n' : noO d = true ∧ noOs ds = true := by
      have : (noO d && noOs ds) = true := n
      simpa using this
    exact .c (R.uf hx d y n'.1 h1) (Rs.uf hx ds r n'.2 h2)
end
def noS : Sl → Prop
  | .sh d => noO d = true
  | .own _ => False
  | .un => True
theorem Sg.uf (s : Sg K Z A0 A σ H ρ) (hx : H x = some (.ins C dx fs)) (hn : ∀ c ∈ ρ, noS c) : Sg K Z A0 A σ (upd H x (.ins C dx gs)) ρ := by
  have ne : ∀ b xs, H b = some (.lst xs) → b ≠ x := fun b xs e z => by
    rw [z, hx] at e
    cases e
  refine ⟨⟨s.g.pA, fun p e => ?_, fun a ha => ?_⟩, ⟨s.er.len, fun i d e => ?_, fun i ds e => ?_, s.er.dis⟩, s.p0, s.a0⟩
  · obtain ⟨is, h, j⟩ := s.g.pk p e
    exact ⟨is, by rw [upd_ne (ne _ _ h)]; exact h, j⟩
  · obtain ⟨xs, h⟩ := s.g.lv a ha
    exact ⟨xs, by rw [upd_ne (ne _ _ h)]; exact h⟩
  · obtain ⟨v, h1, h2⟩ := s.er.sh i d e
    exact ⟨v, h1, R.uf hx d v (hn _ (List.mem_of_getElem? e)) h2⟩
  · exact False.elim (hn _ (List.mem_of_getElem? e))
/-- self.f = e -/
theorem fld_run {te : TE} {Te : PE'} {i : Nat} {f : Str} {D : Ends} {Qd : Dt → Prop} (h : SimE K Z te Te) (s : Sg K Z A0 A σ H ρ) (q : Te ρ fun d => oD (cl d) Qd) (hs : ρ[i]? = some (.sh (.raw (.ref x)))) (hx : H x = some (.ins C dx fs)) (c : Cls K C) (n : NoAttr K C f) (hl : fs.length < 1000)
    (hz : Z.p ≠ some x) (hn : ∀ c ∈ ρ, noS c)
    (k : ∀ d v H1, Ex Z H H1 → R K A H1 d v → Qd d → Sg K Z A0 A σ (upd H1 x (.ins C dx (putF f v fs))) ρ → H1 x = some (.ins C dx fs) → D.nx σ (upd H1 x (.ins C dx (putF f v fs)))) : sFld K (tVar i) te f D σ H := by
  refine h.run A0 A σ ρ H _ _ s q fun d v H1 x1 r1 q1 => ?_
  obtain ⟨d', e, q2⟩ := oD_of q1
  have r2 := cl_R s.g r1 e
  have hx1 := x1.kp _ _ hz hx
  obtain ⟨u, hu, ru⟩ := s.er.sh i _ hs
  rw [ru.wi] at hu
  exact ⟨_, hu, x, C, dx, fs, rfl, hx1, c, n, hl, k d' v H1 x1 r2 q2 ((s.ex x1).uf hx1 hn) hx1⟩
end
end Pv

set_option maxRecDepth 100000
set_option maxHeartbeats 4000000
namespace Pv
open PySem PySem.Spec PyProof.Rows L2 Xv
/-! what each step says, all of its arguments given -/
theorem a_pSeq (T U : PS') (P : Pe) (ρ : List Sl) : (pSeq T U : PS') P ρ = (T { P with nx := U P } ρ) := rfl
theorem a_pRet (T : PE') (P : Pe) (ρ : List Sl) : (pRet T : PS') P ρ = (T ρ fun d => oD (rv ρ d) P.rt) := rfl
theorem a_pRetN (P : Pe) (u1 : List Sl) : (pRetN : PS') P u1 = (P.rt .non) := rfl
theorem a_pNext (P : Pe) (ρ : List Sl) : (pNext : PS') P ρ = (P.nx ρ) := rfl
theorem a_pIfS (c : PT') (T U : PS') (P : Pe) (ρ : List Sl) : (pIfS c T U : PS') P ρ = (c ρ fun b => if b = true then T P ρ else U P ρ) := rfl
theorem a_pSet (i : Nat) (T : PE') (P : Pe) (ρ : List Sl) : (pSet i T : PS') P ρ = (T ρ fun d => oD (cl d) fun d' => P.nx (ρ.set i (.sh d'))) := rfl
theorem a_pOwn (i : Nat) (T : PE') (P : Pe) (ρ : List Sl) : (pOwn i T : PS') P ρ = (T ρ fun
  | .fre ds => i < ρ.length ∧ P.nx (ρ.set i (.own ds))
  | _ => False) := rfl
theorem a_pDrop (T : PE') (P : Pe) (ρ : List Sl) : (pDrop T : PS') P ρ = (T ρ fun _ => P.nx ρ) := rfl
theorem a_pPar (i j : Nat) (T : PA') (P : Pe) (ρ : List Sl) : (pPar i j T : PS') P ρ = (T ρ fun ds => oD (cls ds) fun
  | [a, b] => P.nx ((ρ.set i (.sh a)).set j (.sh b))
  | _ => False) := rfl
theorem a_pPar3 (i j l : Nat) (T : PA') (P : Pe) (ρ : List Sl) : (pPar3 i j l T : PS') P ρ = (T ρ fun ds => oD (cls ds) fun
  | [a, b, c] => P.nx (((ρ.set i (.sh a)).set j (.sh b)).set l (.sh c))
  | _ => False) := rfl
theorem a_pApp (i : Nat) (T : PE') (P : Pe) (ρ : List Sl) : (pApp i T : PS') P ρ = (ownD ρ[i]? fun ds => T ρ fun d => oD (cl d) fun d' => ds.length < sizeLine ∧ P.nx (ρ.set i (.own (ds ++ [d'])))) := rfl
theorem a_pSetI (i : Nat) (Ti Te : PE') (P : Pe) (ρ : List Sl) : (pSetI i Ti Te : PS') P ρ = (ownD ρ[i]? fun ds => Te ρ fun d => oD (cl d) fun d' => Ti ρ (iD fun k => oD (ixN ds.length k) fun j => P.nx (ρ.set i (.own (ds.set j d'))))) := rfl
theorem a_pAsg (T : PE') (g : PG') (P : Pe) (ρ : List Sl) : (pAsg T g : PS') P ρ = (T ρ fun d => oD (cl d) fun d' => g d' ρ P.nx) := rfl
theorem a_pNever (u0 : Pe) (u1 : List Sl) : (pNever : PS') u0 u1 = (False) := rfl
theorem a_pV (i : Nat) (ρ : List Sl) (Q : Dt → Prop) : (pV i : PE') ρ Q = (match ρ[i]? with
  | some (.sh d) => Q d
  | some (.own _) => Q (.slot i)
  | _ => False) := rfl
theorem a_pC (d : Dt) (u0 : List Sl) (Q : Dt → Prop) : (pC d : PE') u0 Q = (Q d) := rfl
theorem a_pOp (p : P2') (Ta Tb : PE') (ρ : List Sl) (Q : Dt → Prop) : (pOp p Ta Tb : PE') ρ Q = (Ta ρ fun x => Tb ρ fun y => p ρ x y Q) := rfl
theorem a_pUn (p : P1') (Ta : PE') (ρ : List Sl) (Q : Dt → Prop) : (pUn p Ta : PE') ρ Q = (Ta ρ fun x => p ρ x Q) := rfl
theorem a_pCB (p : PL') (T : PA') (ρ : List Sl) (Q : Dt → Prop) : (pCB p T : PE') ρ Q = (T ρ fun xs => p ρ xs Q) := rfl
theorem a_pNil (u0 : List Sl) (Q : List Dt → Prop) : (pNil : PA') u0 Q = (Q []) := rfl
theorem a_pCons (T : PE') (U : PA') (ρ : List Sl) (Q : List Dt → Prop) : (pCons T U : PA') ρ Q = (T ρ fun x => U ρ fun xs => Q (x :: xs)) := rfl
theorem a_pTest (T : PE') (ρ : List Sl) (Q : Bool → Prop) : (pTest T : PT') ρ Q = (T ρ (bD Q)) := rfl
theorem a_pAnd (t u : PT') (ρ : List Sl) (Q : Bool → Prop) : (pAnd t u : PT') ρ Q = (t ρ fun c => if c = true then u ρ Q else Q false) := rfl
theorem a_pOr (t u : PT') (ρ : List Sl) (Q : Bool → Prop) : (pOr t u : PT') ρ Q = (t ρ fun c => if c = true then Q true else u ρ Q) := rfl
theorem a_pNot (t : PT') (ρ : List Sl) (Q : Bool → Prop) : (pNot t : PT') ρ Q = (t ρ fun c => Q (!c)) := rfl
theorem a_pAndV (t u : PE') (ρ : List Sl) (Q : Dt → Prop) : (pAndV t u : PE') ρ Q = (t ρ (bD fun c => if c = true then u ρ Q else Q (.bl false))) := rfl
theorem a_pOrV (t u : PE') (ρ : List Sl) (Q : Dt → Prop) : (pOrV t u : PE') ρ Q = (t ρ (bD fun c => if c = true then Q (.bl true) else u ρ Q)) := rfl
theorem a_pNotV (t : PE') (ρ : List Sl) (Q : Dt → Prop) : (pNotV t : PE') ρ Q = (t ρ (bD fun c => Q (.bl (!c)))) := rfl
theorem a_pIf (c : PT') (t u : PE') (ρ : List Sl) (Q : Dt → Prop) : (pIf c t u : PE') ρ Q = (c ρ fun b => if b = true then t ρ Q else u ρ Q) := rfl
theorem a_pTup (T : PA') (ρ : List Sl) (Q : Dt → Prop) : (pTup T : PE') ρ Q = (T ρ fun ds => oD (cls ds) fun es => es.length ≤ sizeLine ∧ Q (.tup es)) := rfl
theorem a_pLst (T : PA') (ρ : List Sl) (Q : Dt → Prop) : (pLst T : PE') ρ Q = (T ρ fun ds => oD (cls ds) fun es => es.length ≤ sizeLine ∧ Q (.fre es)) := rfl
theorem a_pCall (S : PSp) (es : List Dt) (T : PA') (ρ : List Sl) (Q : Dt → Prop) : (pCall S es T : PE') ρ Q = (T ρ fun ds => oD (cls ds) fun fs => S (fs ++ es) Q) := rfl
theorem a_pKw (S : PSp) (m : Nat) (gD : List Dt → List Dt) (T : PA') (ρ : List Sl) (Q : Dt → Prop) : (pKw S m gD T : PE') ρ Q = (T ρ fun ds => oD (cls ds) fun fs => fs.length = m ∧ S (gD fs) Q) := rfl
theorem a_pBMs (p : Str → PL') (T : PE') (U : PA') (ρ : List Sl) (Q : Dt → Prop) : (pBMs p T U : PE') ρ Q = (T ρ (sD fun z => U ρ fun ds => p z ρ ds Q)) := rfl
theorem a_pChain (p q : P2') (Ta Tb Tc : PE') (ρ : List Sl) (Q : Dt → Prop) : (pChain p q Ta Tb Tc : PE') ρ Q = (Ta ρ fun x => Tb ρ fun y => p ρ x y (bD fun k => if k = true then Tc ρ fun z => q ρ y z Q else Q (.bl false))) := rfl
theorem a_pOrT (Ta Tb : PE') (ρ : List Sl) (Q : Dt → Prop) : (pOrT Ta Tb : PE') ρ Q = (Ta ρ fun x => okT x ∧ oD (truD ρ x) fun k => if k = true then Q x else Tb ρ Q) := rfl
theorem a_pNotT (Ta : PE') (ρ : List Sl) (Q : Dt → Prop) : (pNotT Ta : PE') ρ Q = (Ta ρ fun x => okT x ∧ oD (truD ρ x) fun k => Q (.bl (!k))) := rfl
theorem a_pThen (T : PE') (p : P1') (ρ : List Sl) (Q : Dt → Prop) : (pThen T p : PE') ρ Q = (T ρ fun x => p ρ x Q) := rfl
theorem a_pSl (p : List Sl → Dt → Option Int → Option Int → (Dt → Prop) → Prop) (T : PE') (U W : PO') (ρ : List Sl) (Q : Dt → Prop) : (pSl p T U W : PE') ρ Q = (T ρ fun d => U ρ fun lo => W ρ fun hi => p ρ d lo hi Q) := rfl
theorem a_pNoPart (u0 : List Sl) (Q : Option Int → Prop) : (pNoPart : PO') u0 Q = (Q none) := rfl
theorem a_pPart (T : PE') (ρ : List Sl) (Q : Option Int → Prop) : (pPart T : PO') ρ Q = (T ρ (iD fun i => Q (some i))) := rfl
theorem a_pLc (I : List Sl → (List Dt → Prop) → Prop) (g : PG') (Tt : PT') (Te : PE') (vs : List Nat) (ρ : List Sl) (Q : Dt → Prop) : (pLc I g Tt Te vs : PE') ρ Q = (I ρ fun ds => pLcGo g Tt Te (wipeP ρ vs) (fun acc => Q (.fre acc)) ds []) := rfl
theorem a_pFor (I : List Sl → (List Dt → Prop) → Prop) (g : PG') (B : PS') (P : Pe) (ρ : List Sl) : (pFor I g B : PS') P ρ = (I ρ fun ds => pForGo g B P ds ρ) := rfl
theorem a_piList (T : PE') (ρ : List Sl) (Q : List Dt → Prop) : (piList T : List Sl → (List Dt → Prop) → Prop) ρ Q = (T ρ (lD Q)) := rfl
theorem a_piTup (T : PE') (ρ : List Sl) (Q : List Dt → Prop) : (piTup T : List Sl → (List Dt → Prop) → Prop) ρ Q = (T ρ (tD Q)) := rfl
theorem a_piStr (T : PE') (ρ : List Sl) (Q : List Dt → Prop) : (piStr T : List Sl → (List Dt → Prop) → Prop) ρ Q = (T ρ (sD fun x => Q (x.cps.toList.map sgn))) := rfl
theorem a_piRng1 (T : PA') (ρ : List Sl) (Q : List Dt → Prop) : (piRng1 T : List Sl → (List Dt → Prop) → Prop) ρ Q = (T ρ fun
  | [.int j] => j < 2 ^ 62 ∧ -(2 ^ 62) ≤ j ∧ Q (rng 0 j.toNat)
  | _ => False) := rfl
theorem a_piRng2 (T : PA') (ρ : List Sl) (Q : List Dt → Prop) : (piRng2 T : List Sl → (List Dt → Prop) → Prop) ρ Q = (T ρ fun
  | [.int i, .int j] => (-(2 ^ 62) ≤ i ∧ i < 2 ^ 62 ∧ -(2 ^ 62) ≤ j ∧ j < 2 ^ 62) ∧ Q (rng i (j - i).toNat)
  | _ => False) := rfl
theorem a_piZip (T : PA') (ρ : List Sl) (Q : List Dt → Prop) : (piZip T : List Sl → (List Dt → Prop) → Prop) ρ Q = (T ρ fun
  | [a, b] => oD (walkD a) fun ds => oD (walkD b) fun es => Q (List.zipWith (fun x y => .tup [x, y]) ds es)
  | _ => False) := rfl
theorem a_piEnum (T : PA') (ρ : List Sl) (Q : List Dt → Prop) : (piEnum T : List Sl → (List Dt → Prop) → Prop) ρ Q = (T ρ fun
  | [a] => oD (walkD a) fun ds => Q (enumD 0 ds)
  | _ => False) := rfl
theorem a_pYes (u0 : List Sl) (Q : Bool → Prop) : (pYes : PT') u0 Q = (Q true) := rfl
theorem a_p0I (g : Int → Int → Dt) (u0 : List Sl) (x : Dt) (y : Dt) (Q : Dt → Prop) : (p0I g : P2') u0 x y Q = (match x, y with
  | .int i, .int j => Q (g i j)
  | _, _ => False) := rfl
theorem a_pCI (C : Int → Int → Prop) (g : Int → Int → Dt) (u0 : List Sl) (x : Dt) (y : Dt) (Q : Dt → Prop) : (pCI C g : P2') u0 x y Q = (match x, y with
  | .int i, .int j => C i j ∧ Q (g i j)
  | _, _ => False) := rfl
theorem a_pEq (f : Bool → Bool) (u0 : List Sl) (x : Dt) (y : Dt) (Q : Dt → Prop) : (pEq f : P2') u0 x y Q = (match x, y with
  | .int i, .int j => Q (.bl (f (decide (i = j))))
  | .str a, .str b => Q (.bl (f (decide (a = b))))
  | .bl a, .bl b => Q (.bl (f (decide (a = b))))
  | .non, .non => Q (.bl (f true))
  | _, _ => False) := rfl
theorem a_pAddS (u0 : List Sl) (x : Dt) (y : Dt) (Q : Dt → Prop) : (pAddS : P2') u0 x y Q = (match x, y with
  | .str a, .str b => a.length + b.length ≤ sizeLine ∧ Q (.str (a ++ b))
  | _, _ => False) := rfl
theorem a_pCat (ρ : List Sl) (x : Dt) (y : Dt) (Q : Dt → Prop) : (pCat : P2') ρ x y Q = (oD (asL ρ x) fun a => oD (asL ρ y) fun b => a.length + b.length ≤ sizeLine ∧ Q (.fre (a ++ b))) := rfl
theorem a_pCatT (u0 : List Sl) (x : Dt) (y : Dt) (Q : Dt → Prop) : (pCatT : P2') u0 x y Q = (match x, y with
  | .tup a, .tup b => a.length + b.length ≤ sizeLine ∧ Q (.tup (a ++ b))
  | _, _ => False) := rfl
theorem a_pIxL (ρ : List Sl) (x : Dt) (y : Dt) (Q : Dt → Prop) : (pIxL : P2') ρ x y Q = (oD (asL ρ x) fun ds => match y with
  | .int i => oD (atI ds i) Q
  | _ => False) := rfl
theorem a_pIxT (u0 : List Sl) (x : Dt) (y : Dt) (Q : Dt → Prop) : (pIxT : P2') u0 x y Q = (match x, y with
  | .tup ds, .int i => oD (atI ds i) Q
  | _, _ => False) := rfl
theorem a_pIxS (u0 : List Sl) (x : Dt) (y : Dt) (Q : Dt → Prop) : (pIxS : P2') u0 x y Q = (match x, y with
  | .str z, .int i => z.length ≤ sizeLine ∧ oD (atI z.cps.toList i) fun c => Q (sgn c)
  | _, _ => False) := rfl
theorem a_pNeg (u0 : List Sl) (x : Dt) (Q : Dt → Prop) : (pNeg : P1') u0 x Q = (match x with
  | .int i => Q (.int (-i))
  | _ => False) := rfl
theorem a_pSlL (ρ : List Sl) (d : Dt) (lo : Option Int) (hi : Option Int) (Q : Dt → Prop) : (pSlL : List Sl → Dt → Option Int → Option Int → (Dt → Prop) → Prop) ρ d lo hi Q = (oD (asL ρ d) fun ds => Q (.fre (cutD ds lo hi))) := rfl
theorem a_pSlT (u0 : List Sl) (d : Dt) (lo : Option Int) (hi : Option Int) (Q : Dt → Prop) : (pSlT : List Sl → Dt → Option Int → Option Int → (Dt → Prop) → Prop) u0 d lo hi Q = (match d with
  | .tup ds => ¬ (HT.sIx ds.length 0 lo = 0 ∧ HT.sIx ds.length ds.length hi = ds.length) ∧ Q (.tup (cutD ds lo hi))
  | _ => False) := rfl
theorem a_pSlS (u0 : List Sl) (d : Dt) (lo : Option Int) (hi : Option Int) (Q : Dt → Prop) : (pSlS : List Sl → Dt → Option Int → Option Int → (Dt → Prop) → Prop) u0 d lo hi Q = (match d with
  | .str z => z.length ≤ sizeLine ∧ Q (.str (cutS z lo hi))
  | _ => False) := rfl
theorem a_qLen (ρ : List Sl) (xs : List Dt) (Q : Dt → Prop) : (qLen : PL') ρ xs Q = (match xs with
  | [.str z] => z.length ≤ sizeLine ∧ Q (.int (z.length : Nat))
  | [.tup ds] => Q (.int (ds.length : Nat))
  | [d] => oD (asL ρ d) fun ds => Q (.int (ds.length : Nat))
  | _ => False) := rfl
theorem a_qInt (u0 : List Sl) (xs : List Dt) (Q : Dt → Prop) : (qInt : PL') u0 xs Q = (match xs with
  | [.int i] => Q (.int i)
  | [.bl b] => Q (.int (if b then 1 else 0))
  | _ => False) := rfl
theorem a_qAbs (u0 : List Sl) (xs : List Dt) (Q : Dt → Prop) : (qAbs : PL') u0 xs Q = (match xs with
  | [.int i] => Q (.int (if i < 0 then -i else i))
  | _ => False) := rfl
theorem a_qMax (u0 : List Sl) (xs : List Dt) (Q : Dt → Prop) : (qMax : PL') u0 xs Q = (match xs with
  | [.int i, .int j] => Q (.int (if j > i then j else i))
  | _ => False) := rfl
theorem a_qMin (u0 : List Sl) (xs : List Dt) (Q : Dt → Prop) : (qMin : PL') u0 xs Q = (match xs with
  | [.int i, .int j] => Q (.int (if j < i then j else i))
  | _ => False) := rfl
theorem a_qStrI (u0 : List Sl) (xs : List Dt) (Q : Dt → Prop) : (qStrI : PL') u0 xs Q = (match xs with
  | [.int i] => i.natAbs.log2 < 1920 ∧ Q (.str (toString i))
  | _ => False) := rfl
theorem a_qIsi (K : PySem.W.Frag) (u0 : List Sl) (xs : List Dt) (Q : Dt → Prop) : (qIsi K : PL') u0 xs Q = (match xs with
  | [x, c] => oD (tyD x) fun t => oD (clD c) fun u => oD (PySem.W.kitOne K t u) fun b => Q (.bl b)
  | _ => False) := rfl
theorem a_qSum (ρ : List Sl) (xs : List Dt) (Q : Dt → Prop) : (qSum : PL') ρ xs Q = (match xs with
  | [d] => oD (asL ρ d) fun ds => oD (allI ds) fun ns => Q (.int ns.sum)
  | _ => False) := rfl
theorem a_qAll (ρ : List Sl) (xs : List Dt) (Q : Dt → Prop) : (qAll : PL') ρ xs Q = (match xs with
  | [d] => oD (asL ρ d) fun ds => oD (allB ds) fun bs => Q (.bl (bs.all id))
  | _ => False) := rfl
theorem a_qAny (ρ : List Sl) (xs : List Dt) (Q : Dt → Prop) : (qAny : PL') ρ xs Q = (match xs with
  | [d] => oD (asL ρ d) fun ds => oD (allB ds) fun bs => Q (.bl (bs.any id))
  | _ => False) := rfl
theorem a_qList (ρ : List Sl) (xs : List Dt) (Q : Dt → Prop) : (qList : PL') ρ xs Q = (match xs with
  | [.tup ds] => Q (.fre ds)
  | [d] => oD (asL ρ d) fun ds => Q (.fre ds)
  | _ => False) := rfl
theorem a_qTup (ρ : List Sl) (d : Dt) (Q : Dt → Prop) : (qTup : P1') ρ d Q = (match d with
  | .tup ds => Q (.tup ds)
  | d => oD (asL ρ d) fun ds => Q (.tup ds)) := rfl
theorem a_mJoin (a : Str) (ρ : List Sl) (ds : List Dt) (Q : Dt → Prop) : (mJoin a : PL') ρ ds Q = (match ds with
  | [d] => oD (asL ρ d) fun es => oD (allS es) fun ys => (ys.map (·.length)).sum + ys.length * a.length ≤ 16777216 ∧ Q (.str (Txt.join a ys))
  | _ => False) := rfl
theorem a_pgName (i : Nat) (d : Dt) (ρ : List Sl) (M : List Sl → Prop) : (pgName i : PG') d ρ M = (M (ρ.set i (.sh d))) := rfl
theorem a_pgStar (n i : Nat) (q : List Dt → List Sl → (List Sl → Prop) → Prop) (d : Dt) (ρ : List Sl) (M : List Sl → Prop) : (pgStar n i q : PG') d ρ M = (match d with
  | .tup ds => n ≤ ds.length + 1 ∧ i < n ∧ q (ds.take i ++ [.lst ((ds.drop i).take (ds.length + 1 - n))] ++ (ds.drop i).drop (ds.length + 1 - n)) ρ M
  | _ => False) := rfl
theorem a_qFn (S : PSp) (es : List Dt) (u0 : List Sl) (ds : List Dt) (Q : Dt → Prop) : (qFn S es : PL') u0 ds Q = (oD (cls ds) fun fs => S (fs ++ es) Q) := rfl
theorem a_qMaxL (ρ : List Sl) (xs : List Dt) (Q : Dt → Prop) : (qMaxL : PL') ρ xs Q = (match xs with
  | [d] => oD (asL ρ d) fun ds => oD (allI ds) fun ns => 0 < ns.length ∧ ∀ m, m ∈ ns → (∀ y, y ∈ ns → y ≤ m) → Q (.int m)
  | _ => False) := rfl
theorem a_qRg1 (u0 : List Sl) (xs : List Dt) (Q : Dt → Prop) : (qRg1 : PL') u0 xs Q = (match xs with
  | [.int j] => Q (.rg 0 j)
  | _ => False) := rfl
theorem a_piRg (T : PE') (ρ : List Sl) (Q : List Dt → Prop) : (piRg T : List Sl → (List Dt → Prop) → Prop) ρ Q = (T ρ fun
  | .rg lo hi => (-(2 ^ 62) ≤ lo ∧ lo < 2 ^ 62 ∧ -(2 ^ 62) ≤ hi ∧ hi < 2 ^ 62) ∧ Q (rng lo (hi - lo).toNat)
  | _ => False) := rfl
theorem a_pFld (C : Addr) (f : Str) (T : PE') (ρ : List Sl) (Q : Dt → Prop) : (pFld C f T : PE') ρ Q = (T ρ fun
  | .obj C' ks ds => C' = C ∧ ks.length = ds.length ∧ oD ((ks.zip ds).lookup f) Q
  | _ => False) := rfl
theorem a_qIsO (C : Addr) (u0 : List Sl) (xs : List Dt) (Q : Dt → Prop) : (qIsO C : PL') u0 xs Q = (match xs with
  | [.obj C' _ _, .raw (.ref D)] => C' = C ∧ D = C ∧ Q (.bl true)
  | _ => False) := rfl
theorem a_pProp (C : Addr) (S : PSp) (T : PE') (ρ : List Sl) (Q : Dt → Prop) : (pProp C S T : PE') ρ Q = (T ρ fun
  | .obj C' ks ds => C' = C ∧ S [.obj C' ks ds] Q
  | _ => False) := rfl
end Pv

set_option maxRecDepth 100000
set_option maxHeartbeats 4000000
namespace Pv
open PySem PySem.Spec PyProof.Rows L2 Xv
theorem at0 {α : Type} (d : α) (ds : List α) : atI (d :: ds) 0 = some d := by
  have h : ixN (d :: ds).length 0 = some 0 := by
    unfold ixN
    rw [List.length_cons]
    simp
  unfold atI
  rw [h]
  rfl
theorem at1 {α : Type} (c d : α) (ds : List α) : atI (c :: d :: ds) 1 = some d := by
  have h : ixN (c :: d :: ds).length 1 = some 1 := by
    unfold ixN
    rw [List.length_cons, List.length_cons]
    simp
    omega
  unfold atI
  rw [h]
  rfl
theorem at2 {α : Type} (b c d : α) (ds : List α) : atI (b :: c :: d :: ds) 2 = some d := by
  have h : ixN (b :: c :: d :: ds).length 2 = some 2 := by
    unfold ixN
    rw [List.length_cons, List.length_cons, List.length_cons]
    simp
    omega
  unfold atI
  rw [h]
  rfl
theorem at3 {α : Type} (a b c d : α) (ds : List α) : atI (a :: b :: c :: d :: ds) 3 = some d := by
  have h : ixN (a :: b :: c :: d :: ds).length 3 = some 3 := by
    unfold ixN
    rw [List.length_cons, List.length_cons, List.length_cons, List.length_cons]
    simp
    omega
  unfold atI
  rw [h]
  rfl
theorem seq_step {T U : PS'} {P : Pe} {ρ : List Sl} (h : ∀ N : List Sl → Prop, N = U P → T { P with nx := N } ρ) : pSeq T U P ρ := h _ rfl
theorem tgt_step {g : PG'} {d : Dt} {ρ : List Sl} {M : List Sl → Prop} (h : ∀ N : List Sl → Prop, N = M → g d ρ N) : g d ρ M := h _ rfl
def pRet2 (j : Nat) (Te : PE') : PS' := fun P ρ => Te ρ fun d => oD (cl d) fun d' => ownD ρ[j]? fun ds => P.rt (.tup [d', .lst ds])
theorem a_pRet2 (j : Nat) (Te : PE') (P : Pe) (ρ : List Sl) : pRet2 j Te P ρ = (Te ρ fun d => oD (cl d) fun d' => ownD ρ[j]? fun ds => P.rt (.tup [d', .lst ds])) := rfl
section
variable {K : PySem.W.Frag} {Z : Zc} {i j : Nat} {te : TE} {Te : PE'}
/-- two names for two new empty lists -/
theorem s_par2L : SimS K Z (tPar i j (tCons (tLst tNil) (tCons (tLst tNil) tNil))) (pSeq (pOwn i (pLst pNil)) (pOwn j (pLst pNil))) := ⟨fun A0 A σ ρ H D P s h E => by
  have e := (s_seq (s_own (K := K) (Z := Z) (i := i) (s_lst s_nil)) (s_own (K := K) (Z := Z) (i := j) (s_lst s_nil))).run A0 A σ ρ H D P s h E
  obtain ⟨hl, e⟩ := e
  refine ⟨hl, fun p hp => ?_⟩
  obtain ⟨hl2, e2⟩ := e p hp
  exact ⟨hl2, fun q hq => ⟨_, _, rfl, e2 q hq⟩⟩⟩
theorem s_asg2L : SimS K Z (tAsg (tTup (tCons (tLst tNil) (tCons (tLst tNil) tNil))) (gTup K 2 (gCons (gName i) (gCons (gName j) gNil)))) (pSeq (pOwn i (pLst pNil)) (pOwn j (pLst pNil))) := ⟨fun A0 A σ ρ H D P s h E => by
  have e := (s_seq (s_own (K := K) (Z := Z) (i := i) (s_lst s_nil)) (s_own (K := K) (Z := Z) (i := j) (s_lst s_nil))).run A0 A σ ρ H { D with nx := fun σ' H' => ∀ t xs, H' t = none → D.nx σ' (upd H' t (.tup xs)) } P s h
    ⟨fun A' σ' ρ' H' s' w' q t xs ht => E.nx A' σ' ρ' _ (s'.ex (Ex.new s'.g.pk ht)) (w'.tr (Wr.ex s'.g (Ex.new s'.g.pk ht))) q, E.bk, E.ct, E.rt⟩
  obtain ⟨hl, e⟩ := e
  refine ⟨hl, fun p hp => ?_⟩
  obtain ⟨hl2, e2⟩ := e p hp
  refine ⟨hl2, fun q hq => ⟨by show 2 ≤ sizeLine; rw [sizeLine_eq]; omega, fun t ht => ⟨t, _, rfl, .inl (.inl upd_same), rfl, _, _, rfl, _, _, rfl, rfl, e2 q hq t _ ht⟩⟩⟩⟩
/-- a pair with a list of one's own is given back -/
theorem s_ret2 (h1 : SimE K Z te Te) : SimS K Z (tRet (tTup (tCons te (tCons (tVar j) tNil)))) (pRet2 j Te) := ⟨fun A0 A σ ρ H D P s h E => h1.run A0 A σ ρ H _ _ s h fun d v H1 x1 r1 q1 => by
  obtain ⟨d', e, q⟩ := oD_of q1
  have s1 := s.ex x1
  have r2 := cl_R s.g r1 e
  cases e3 : ρ[j]? with
  | none => rw [e3] at q; exact False.elim q
  | some c =>
    cases c with
    | un => rw [e3] at q; exact False.elim q
    | sh d2 => rw [e3] at q; exact False.elim q
    | own ds =>
      rw [e3] at q
      obtain ⟨a, xs, h4, h5, h6, h7, h8⟩ := s1.er.ow j ds e3
      refine ⟨_, h4, by show 2 ≤ sizeLine; rw [sizeLine_eq]; omega, fun p hp => ?_⟩
      have xn : Ex Z H1 (upd H1 p (.tup [v, .ref a])) := Ex.new s1.g.pk hp
      have dn : Nw A A0 H1 := fun b hb => .inl (s.a0 b hb)
      have mv := s1.g.mv xn
      have l0 : R K A0 H1 (.lst ds) (.ref a) := .l h6 h7 (Rs.up dn _ _ h8)
      have d0 : R K A0 H1 d' v := R.up dn _ _ r2
      have m0 : Mv A0 H1 (upd H1 p (.tup [v, .ref a])) := ⟨fun b o _ e => by rw [upd_ne (ne_of_none e hp)]; exact e, fun b hb => s1.g.lv b (s.a0 b hb)⟩
      exact E.rt A _ (.tup [d', .lst ds]) _ (Wr.ex s.g (x1.tr xn)) (.t upd_same (.c (R.mv m0 _ _ d0) (.c (R.mv m0 _ _ l0) .n))) q⟩
end
section
variable {K : PySem.W.Frag} {Z : Zc} {A0 A : List Addr} {H : Hp} {σ : L2.St} {ρ : List Sl} {x C dx : Addr} {fs : List (Str × V)} {i j : Nat} {f : Str} {D : Ends} {d : Dt}
/-- self.f = a name -/
theorem fld_var (s : Sg K Z A0 A σ H ρ) (hj : ρ[j]? = some (.sh d)) (hs : ρ[i]? = some (.sh (.raw (.ref x)))) (hx : H x = some (.ins C dx fs)) (c : Cls K C) (n : NoAttr K C f) (hl : fs.length < 1000) (hn : ∀ c ∈ ρ, noS c)
    (k : ∀ v, σ[j]? = some (some v) → Sg K Z A0 A σ (upd H x (.ins C dx (putF f v fs))) ρ → D.nx σ (upd H x (.ins C dx (putF f v fs)))) : sFld K (tVar i) (tVar j) f D σ H := by
  obtain ⟨v, hv, _⟩ := s.er.sh j _ hj
  obtain ⟨u, hu, ru⟩ := s.er.sh i _ hs
  rw [ru.wi] at hu
  exact ⟨v, hv, _, hu, x, C, dx, fs, rfl, hx, c, n, hl, k v hv (s.uf hx hn)⟩
end
end Pv

set_option maxRecDepth 100000
set_option maxHeartbeats 4000000
namespace Pv
open PySem PySem.Spec PyProof.Rows L2 Xv
/-- an owned list is shared from here on -/
def pRel (i : Nat) (T : PS') : PS' := fun P ρ => ownD ρ[i]? fun ds => T P (ρ.set i (.sh (.lst ds)))
theorem a_pRel (i : Nat) (T : PS') (P : Pe) (ρ : List Sl) : pRel i T P ρ = (ownD ρ[i]? fun ds => T P (ρ.set i (.sh (.lst ds)))) := rfl
section
variable {K : PySem.W.Frag} {Z : Zc} {i : Nat} {t : TS} {T : PS'}
theorem s_rel (h1 : SimS K Z t T) : SimS K Z t (pRel i T) := ⟨fun A0 A σ ρ H D P s h E => by
  unfold pRel at h
  cases e3 : ρ[i]? with
  | none => rw [e3] at h; exact False.elim h
  | some c =>
    cases c with
    | un => rw [e3] at h; exact False.elim h
    | sh d2 => rw [e3] at h; exact False.elim h
    | own ds =>
      rw [e3] at h
      obtain ⟨a, xs, h4, h5, h6, h7, h8⟩ := s.er.ow i ds e3
      have sub : ∀ b, b ∈ A.filter (fun b => b != a) → b ∈ A := fun b hb => (List.mem_filter.mp hb).1
      have nw : ∀ H' : Hp, Nw A (A.filter fun b => b != a) H' := fun H' b hb => .inl (sub b hb)
      have na : a ∉ A.filter fun b => b != a := fun z => by
        have := (List.mem_filter.mp z).2
        simp at this
      have hi : i < ρ.length := (List.getElem?_eq_some_iff.mp e3).1
      have keep : ∀ b, b ∈ A → b ≠ a → b ∈ A.filter fun b => b != a := fun b hb n => List.mem_filter.mpr ⟨hb, by simpa using n⟩
      have za : ∀ b ∈ A0, b ≠ a := fun b hb e => h6 (e ▸ hb)
      have s2 : Sg K Z A0 (A.filter fun b => b != a) σ H (ρ.set i (.sh (.lst ds))) := by
        refine ⟨⟨fun p e => keep p (s.g.pA p e) (za p (s.p0 p e)), s.g.pk, fun b hb => s.g.lv b (sub b hb)⟩, ⟨by rw [List.length_set, s.er.len], fun j d e => ?_, fun j es e => ?_, fun j l es fs b n e4 e5 e6 => ?_⟩, s.p0, fun b hb => keep b (s.a0 b hb) (za b hb)⟩
        · by_cases hj : i = j
          · subst hj
            rw [List.getElem?_set_self hi] at e
            cases e
            exact ⟨_, h4, .l na h7 (Rs.up (nw H) _ _ h8)⟩
          · rw [List.getElem?_set_ne hj] at e
            obtain ⟨v, q1, q2⟩ := s.er.sh j d e
            exact ⟨v, q1, R.up (nw H) _ _ q2⟩
        · by_cases hj : i = j
          · subst hj
            rw [List.getElem?_set_self hi] at e
            cases e
          · rw [List.getElem?_set_ne hj] at e
            obtain ⟨b, ys, q1, q2, q3, q4, q5⟩ := s.er.ow j es e
            refine ⟨b, ys, q1, keep b q2 fun z => ?_, q3, q4, Rs.up (nw H) _ _ q5⟩
            subst z
            exact s.er.dis i j ds es b hj e3 e h4 q1
        · have nj : ∀ (m : Nat) (gs : List Dt), (ρ.set i (Sl.sh (.lst ds)))[m]? = some (Sl.own gs) → ρ[m]? = some (Sl.own gs) := fun m gs e => by
            by_cases hj : i = m
            · subst hj
              rw [List.getElem?_set_self hi] at e
              cases e
            · rwa [List.getElem?_set_ne hj] at e
          exact s.er.dis j l es fs b n (nj _ _ e4) (nj _ _ e5) e6
      have up : ∀ A' H', Wr Z A0 (A.filter fun b => b != a) H A' H' → Wr Z A0 A H A' H' := fun A' H' w => ⟨fun b o n e => w.kp b o (fun z => n (sub b z)) e, fun b hb => by
        rcases w.nw b hb with z | z
        · exact .inl (sub b z)
        · exact .inr z, w.pk⟩
      exact h1.run A0 _ σ _ H D P s2 h ⟨fun A' σ' ρ' H' s' w' q => E.nx A' σ' ρ' H' s' (up _ _ w') q, fun A' σ' ρ' H' s' w' q => E.bk A' σ' ρ' H' s' (up _ _ w') q, fun A' σ' ρ' H' s' w' q => E.ct A' σ' ρ' H' s' (up _ _ w') q, fun A' H' d v w' r q => E.rt A' H' d v (up _ _ w') r q⟩⟩
end
theorem wd_lst (ds : List Dt) : walkD (.lst ds) = some ds := rfl
theorem wd_fre (ds : List Dt) : walkD (.fre ds) = some ds := rfl
theorem wd_tup (ds : List Dt) : walkD (.tup ds) = some ds := rfl
theorem wd_str (x : Str) : walkD (.str x) = some (x.cps.toList.map sgn) := rfl
end Pv

set_option maxRecDepth 100000
set_option maxHeartbeats 4000000
namespace Pv
open PySem PySem.Spec PyProof.Rows L2 Xv
/-- n whole numbers downward from i on -/
def dwn (i : Int) (n : Nat) : List Dt := (List.range n).map fun k => .int (i + (k : Nat) * (-1))
def piRng3 (T : PA') : List Sl → (List Dt → Prop) → Prop := fun ρ Q => T ρ fun
  | [.int i, .int j, .int c] => c = -1 ∧ (-(2 ^ 62) ≤ i ∧ i < 2 ^ 62 ∧ -(2 ^ 62) ≤ j ∧ j < 2 ^ 62) ∧ Q (dwn i (i - j).toNat)
  | _ => False
theorem a_piRng3 (T : PA') (ρ : List Sl) (Q : List Dt → Prop) : piRng3 T ρ Q = (T ρ fun
  | [.int i, .int j, .int c] => c = -1 ∧ (-(2 ^ 62) ≤ i ∧ i < 2 ^ 62 ∧ -(2 ^ 62) ≤ j ∧ j < 2 ^ 62) ∧ Q (dwn i (i - j).toNat)
  | _ => False) := rfl
section
variable {K : PySem.W.Frag} {Z : Zc} {ta : TA} {Ta : PA'}
theorem ito_dwn {A : List Addr} {H : Hp} {i : Int} {n : Nat} : Ito K A (Itc i (-1) n) H (dwn i n) := fun A' H2 m nw k => by
  refine ⟨fun hl => ?_, fun d hd => ?_⟩
  · show n ≤ k
    unfold dwn at hl
    rw [List.length_map, List.length_range] at hl
    omega
  · unfold dwn at hd
    rw [List.getElem?_map, Option.map_eq_some_iff] at hd
    obtain ⟨a, h1, h2⟩ := hd
    obtain ⟨h3, h4⟩ := List.getElem?_eq_some_iff.mp h1
    rw [List.getElem_range] at h4
    rw [List.length_range] at h3
    refine ⟨h3, fun x H3 hy => ?_⟩
    obtain ⟨rfl, rfl⟩ := hy
    subst h4 h2
    exact ⟨fun _ _ e => e, .i _⟩
theorem s_iRng3 (h1 : SimA K Z ta Ta) : SimI K Z (iRng3 ta) (piRng3 Ta) := ⟨fun A0 A σ ρ H G Q s h k => h1.run A0 A σ ρ H _ _ s h fun ds vs H1 x1 r1 q1 => by
  split at q1
  · rename_i i j c
    obtain ⟨rfl, ⟨b1, b2, b3, b4⟩, q⟩ := q1
    obtain ⟨x, r, rfl, h2, h3⟩ := r1
    obtain ⟨y, r, rfl, h4, h5⟩ := h3
    obtain ⟨z, r, rfl, h6, h7⟩ := h5
    cases h7
    cases h2.ii
    cases h4.ii
    cases h6.ii
    exact ⟨i, j, -1, (i - j).toNat, rfl, RgC.neg b1 b2 b3 b4, k _ _ _ x1 ito_dwn q⟩
  · exact False.elim q1⟩
end
end Pv

set_option maxRecDepth 100000
set_option maxHeartbeats 4000000
namespace Pv
open PySem PySem.Spec PyProof.Rows L2 Xv
section
variable {K : PySem.W.Frag} {Z : Zc} {A0 A : List Addr} {H H1 : Hp} {σ : L2.St} {ρ : List Sl} {i : Nat} {a : Addr} {xs : List V} {ds : List Dt}
/-- a slot takes a new list as its own -/
theorem own_put (s : Sg K Z A0 A σ H ρ) (x1 : Ex Z H H1) (hi : i < ρ.length) (h0 : H a = none) (e1 : H1 a = some (.lst xs)) (e2 : Rs K (a :: A) H1 ds xs) : Sg K Z A0 (a :: A) (σ.set i (some (.ref a))) H1 (ρ.set i (.own ds)) ∧ Wr Z A0 A H (a :: A) H1 := by
  have s1 := s.ex x1
  have hA : a ∉ A := s.g.new h0
  have hn : ∀ b ∈ a :: A, b ∈ A ∨ H b = none := Nw.cons h0
  have mv1 := s.g.mv x1
  have w : Wr Z A0 A H (a :: A) H1 := ⟨(Wr.ex (A0 := A0) s.g x1).kp, hn, x1.pk⟩
  refine ⟨⟨⟨fun p e => List.mem_cons_of_mem _ (s.g.pA p e), x1.pk, fun b hb => ?_⟩, ⟨by rw [List.length_set, List.length_set, s.er.len], fun j d e => ?_, fun j es e => ?_, fun j l es fs b n e3 e4 e5 => ?_⟩, s.p0, fun b hb => List.mem_cons_of_mem _ (s.a0 b hb)⟩, w⟩
  · rcases List.mem_cons.mp hb with z | z
    · rw [z]
      exact ⟨xs, e1⟩
    · exact s1.g.lv b z
  · by_cases hj : i = j
    · subst hj
      rw [List.getElem?_set_self hi] at e
      cases e
    · rw [List.getElem?_set_ne hj] at e ⊢
      obtain ⟨v, h2, h3⟩ := s.er.sh j d e
      exact ⟨v, h2, R.mv2 mv1 hn _ _ h3⟩
  · by_cases hj : i = j
    · subst hj
      rw [List.getElem?_set_self hi] at e
      cases e
      refine ⟨a, xs, by rw [List.getElem?_set_self (by rw [s.er.len]; exact hi)], List.mem_cons_self .., fun z => hA (s.a0 a z), e1, e2⟩
    · rw [List.getElem?_set_ne hj] at e ⊢
      obtain ⟨b, ys, h2, h3, h4, h5, h6⟩ := s.er.ow j es e
      exact ⟨b, ys, h2, List.mem_cons_of_mem _ h3, h4, x1.kp _ _ (fun z => h4 (s.p0 b z)) h5, Rs.mv2 mv1 hn _ _ h6⟩
  · have key : ∀ (l : Nat) (fs : List Dt), i ≠ l → ρ[l]? = some (.own fs) → σ[l]? ≠ some (some (.ref a)) := fun l fs hl e z => by
      obtain ⟨b, ys, h2, h3, _⟩ := s.er.ow l fs e
      rw [z] at h2
      cases h2
      exact hA h3
    by_cases hj : i = j
    · subst hj
      rw [List.getElem?_set_self (by rw [s.er.len]; exact hi)] at e5
      cases e5
      rw [List.getElem?_set_ne n] at e4 ⊢
      exact key l fs n e4
    · rw [List.getElem?_set_ne hj] at e3 e5
      by_cases hl : i = l
      · subst hl
        rw [List.getElem?_set_self (by rw [s.er.len]; exact hi)]
        intro z
        cases z
        exact key j es hj e3 e5
      · rw [List.getElem?_set_ne hl] at e4 ⊢
        exact s.er.dis j l es fs b n e3 e4 e5
end
def pParO (i j : Nat) (T : PE') : PS' := fun P ρ => T ρ fun
  | .fre ds => i < ρ.length ∧ j < ρ.length ∧ P.nx ((ρ.set i (.own ds)).set j (.own []))
  | _ => False
theorem a_pParO (i j : Nat) (T : PE') (P : Pe) (ρ : List Sl) : pParO i j T P ρ = (T ρ fun
  | .fre ds => i < ρ.length ∧ j < ρ.length ∧ P.nx ((ρ.set i (.own ds)).set j (.own []))
  | _ => False) := rfl
section
variable {K : PySem.W.Frag} {Z : Zc} {i j : Nat} {te : TE} {Te : PE'}
/-- a list of one's own and a new empty one -/
theorem s_parO (h1 : SimE K Z te Te) : SimS K Z (tPar i j (tCons te (tCons (tLst tNil) tNil))) (pParO i j Te) := ⟨fun A0 A σ ρ H D P s h E => h1.run A0 A σ ρ H _ _ s h fun d v H1 x1 r1 q1 => by
  cases d with
  | fre ds =>
    obtain ⟨hi, hj, q⟩ := q1
    obtain ⟨a, xs, rfl, h0, e1, e2⟩ := r1
    obtain ⟨s2, w2⟩ := own_put (i := i) s x1 hi h0 e1 e2
    refine ⟨Nat.zero_le _, fun p hp => ⟨_, _, rfl, ?_⟩⟩
    have xn : Ex Z H1 (upd H1 p (.lst [])) := Ex.new s2.g.pk hp
    obtain ⟨s3, w3⟩ := own_put (i := j) (ds := []) s2 xn (by rw [List.length_set]; exact hj) hp upd_same .n
    exact E.nx _ _ _ _ s3 (w2.tr w3) q
  | _ => exact False.elim q1⟩
end
end Pv

set_option maxRecDepth 100000
set_option maxHeartbeats 4000000
namespace Pv
open PySem PySem.Spec PyProof.Rows L2 Xv HT
/-! ### t[::-1], t[lo:hi] of any width, o.m(..) -/
section
variable {prog : Program} {w : World} {A : Around} {E : Value → Shared → Prop} {s : Shared}
theorem sliceApplied_rev {sl : Addr} {t : Tok} {n : Nat} {Q : Int × Int × Nat → Shared → Prop} (hs : s.heap.IsSliceOf sl .none .none (.int (-1) t))
    (h : Q ((n : Int) - 1, -1, n) s) : wpAny (model prog w) A (Builtin.Slice.sliceApplied (.ref sl) (pure (n : Int))) Q E s := by
  obtain ⟨os, hos, hcs, hds⟩ := id hs
  unfold Builtin.Slice.sliceApplied Builtin.Slice.sliceFields
  refine wpAny_bind (wpAny_bind (wpAny_field hos hds (x := .none) rfl (wpAny_bind (wpAny_field hos hds (x := .none) rfl (wpAny_bind (wpAny_field hos hds (x := .int (-1) t) rfl (wpAny_pure ?_)))))))
  refine wpAny_bind (slicePart_ (.int (-1) t) ?_)
  show wpAny _ _ (if ((-1 : Int) == 0) = true then _ else _) _ _ s
  rw [if_neg (by decide)]
  refine wpAny_bind (slicePart_none (wpAny_bind (slicePart_none (wpAny_bind (wpAny_pure ?_)))))
  show wpAny _ _ (match Builtin.Slice.sliceAdjust none none (-1) (n : Int) with | (lo, hi) => pure (lo, (-1 : Int), Builtin.Slice.slicePlaces lo hi (-1))) _ _ s
  have e1 : Builtin.Slice.sliceAdjust none none (-1) (n : Int) = ((n : Int) - 1, -1) := rfl
  rw [e1]
  show wpAny _ _ (pure ((n : Int) - 1, (-1 : Int), Builtin.Slice.slicePlaces ((n : Int) - 1) (-1) (-1))) _ _ s
  have e2 : Builtin.Slice.slicePlaces ((n : Int) - 1) (-1) (-1) = n := by
    unfold Builtin.Slice.slicePlaces
    have h1 : ¬ ((-1 : Int) > 0) := by omega
    simp only [h1, if_false, Int.neg_neg, Int.ediv_one]
    split <;> omega
  rw [e2]
  exact wpAny_pure h
theorem fm_all {α β : Type} {f : α → Option β} {g : α → β} : ∀ l : List α, (∀ m ∈ l, f m = some (g m)) → l.filterMap f = l.map g
  | [], _ => rfl
  | a :: l, h => by
    rw [List.filterMap_cons_some (h a List.mem_cons_self), List.map_cons, fm_all l fun m hm => h m (List.mem_cons_of_mem _ hm)]
theorem pick_rev (xs : Array Value) : ((List.range xs.size).filterMap fun (m : Nat) => xs[((xs.size : Int) - 1 + (m : Int) * (-1)).toNat]?).toArray = xs.toList.reverse.toArray := by
  congr 1
  rw [fm_all (g := fun m => xs.toList[xs.size - 1 - m]?.getD .none) _ fun m hm => ?_]
  · refine List.ext_getElem (by simp) fun i h1 h2 => ?_
    rw [List.getElem_map, List.getElem_range, List.getElem_reverse]
    simp only [List.length_reverse, Array.length_toList] at h2
    rw [List.getElem?_eq_getElem (by rw [Array.length_toList]; omega)]
    rfl
  · have hm' := List.mem_range.mp hm
    have e : ((xs.size : Int) - 1 + (m : Int) * (-1)).toNat = xs.size - 1 - m := by omega
    rw [e, Array.getElem?_eq_getElem (by omega), List.getElem?_eq_getElem (by rw [Array.length_toList]; omega)]
    rfl
theorem getItem_tuple_rev {t sl : Addr} {items : Array Value} {u : Tok} {Q : Value → Shared → Prop} (ht : IsTup s.heap t items) (hs : s.heap.IsSliceOf sl .none .none (.int (-1) u))
    (h : Q (.ref s.heap.objs.size) { s with heap := s.heap.push { cls := .type "tuple", data := .seq items.toList.reverse.toArray } })
    (hsz : items.size ≤ sizeLine) : wpAny (model prog w) A (getItem (.ref t) (.ref sl)) Q E s := by
  have htake : sizeOk (.seq items.toList.reverse.toArray) := by
    show items.toList.reverse.toArray.size ≤ sizeLine
    rw [List.size_toArray, List.length_reverse, Array.length_toList]
    exact hsz
  obtain ⟨os, hos, hcs, hds⟩ := id hs
  have hTs : s.TypeIs (.ref sl) "slice" := ⟨os, hos, hcs⟩
  unfold getItem
  try with_reducible refine wpAny_holding ?_
  first | refine wpAny_bind (wpAny_pure ?_) | skip
  refine wpAny_bind (wpAny_sequenceKey ht.typeIs (by decide) ?_)
  refine wpAny_bind (wpAny_callSpecial?_slot (name := Str.ofString "__getitem__") ht.typeIs PyProof.Rows.slot_tuple_getitem
    (wpAny_call_entry PyProof.Rows.slot_tuple_getitem ht.typeIs entry_tuple_getitem ?_ (args_tuple_getitem _ _)))
  show wpAny _ _ (Builtin.Tuple.tupleItemsOf (.ref t) >>= _) _ _ s
  refine wpAny_bind (tupleItemsOf_ ht ?_)
  refine wpAny_bind (wpAny_typeOf hTs ?_)
  rw [if_pos (by decide)]
  refine wpAny_bind (sliceApplied_rev hs ?_)
  have hno : ¬ ((((items.size : Int) - 1) == 0 && (-1 : Int) == 1 && items.size == items.size) = true) := by
    intro q
    rw [Bool.and_eq_true, Bool.and_eq_true] at q
    exact absurd q.1.2 (by decide)
  show wpAny _ _ (if (((items.size : Int) - 1) == 0 && (-1 : Int) == 1 && items.size == items.size) = true then _ else _) _ _ s
  rw [if_neg hno, pick_rev]
  first
    | exact wpAny_bind (m := Builtin.Tuple.tupleExact _) (wpAny_newObj_type (wpAny_pure ⟨_, rfl, wpAny_pure h⟩) htake)
    | exact wpAny_bind (m := Builtin.Tuple.tupleExact _) (wpAny_newObj_type (wpAny_bind (wpAny_pure (wpAny_pure ⟨_, rfl, wpAny_pure h⟩))) htake)
    | exact wpAny_bind (wpAny_bind (m := Builtin.Tuple.tupleExact _) (wpAny_newObj_type (wpAny_pure (wpAny_pure ⟨_, rfl, wpAny_pure h⟩)) htake))
    | exact wpAny_bind (wpAny_bind (m := Builtin.Tuple.tupleExact _) (wpAny_newObj_type (wpAny_pure ⟨_, rfl, wpAny_pure h⟩) htake))
end
def tRev (K : PySem.W.Frag) (te : TE) (ts : TO) : TE := fun σ H Q => te σ H fun x H1 => ts σ H1 fun o H2 => o = some (-1) ∧ ∃ a xs, x = .ref a ∧ SqT K H2 a xs ∧ ∀ p, H2 p = none → Q (.ref p) (upd H2 p (.tup xs.reverse))
section
variable {X : Cx} {e : Expr} {te : TE} {st : Expr} {ts : TO} {pos p2 : Pos}
theorem pe_rev (he : PE X e te) (hst : PO X (some st) ts) : PE X (.Subscript e (.Slice none none (some st) p2) pos) (tRev X.K te ts) := by
  refine ⟨fun pins s σ H Q I h => ?_⟩
  refine Subscript_ (thn (he.run pins s σ H _ I h) fun v s1 ⟨x, H1, I1, r1, q1⟩ => ?_)
  refine wpAny_Slice ?_
  rw [evalPart_none]
  refine wpAny_pure (wpAny_pure ?_)
  refine thn (hst.run pins s1 σ H1 _ I1 q1) fun vs s3 ⟨o, H3, I3, po, e3, a, xs, ex, hx, q⟩ => ?_
  subst ex e3
  cases r1
  cases po with
  | int i t =>
  have I4 : Inv X pins σ H3 { s3 with heap := s3.heap.push { cls := .type "slice", data := .fields #[.none, .none, .int (-1) t] } } := I3.kept (t' := s3.toks) fun b ob q => Heap.get?_push_of_some _ q
  obtain ⟨its, r, ht, hz⟩ := I4.tuple hx
  have hlen : its.toArray.size = xs.length := by rw [List.size_toArray]; exact r.length.symm
  show wpAny (model X.prog X.w) X.A (subscriptTail e (.Slice none none (some st) p2) (.ref a) (.ref s3.heap.objs.size)) (EP X pins σ Q) X.xe { s3 with heap := s3.heap.push { cls := .type "slice", data := .fields #[.none, .none, .int (-1) t] } }
  refine tail_any (ops := [.ref a, .ref s3.heap.objs.size]) ht.typeIs PyProof.Rows.slot_tuple_getitem.lookup ?_ (by with_unfolding_all rfl)
  refine getItem_tuple_rev (u := t) ht (Heap.IsSliceOf.new ..) ?_ (by rw [hlen]; exact hz)
  refine ⟨.ref _, _, I4.laid (t' := s3.toks) (o := .tup xs.reverse) (fun b ob q => Heap.get?_push_of_some _ q) (Nat.le_refl _) ?_, rfl, q _ (I4.hok.fresh (Nat.le_refl _))⟩
  exact ⟨by rw [List.length_reverse]; exact hz, _, r.reverse, IsTup.new _ _⟩
end
def pRevT (T : PE') (U : PO') : PE' := fun ρ Q => T ρ fun d => U ρ fun o => o = some (-1) ∧ match d with
  | .tup ds => Q (.tup ds.reverse)
  | _ => False
def pSlA : List Sl → Dt → Option Int → Option Int → (Dt → Prop) → Prop := fun _ d lo hi Q => match d with
  | .tup ds => Q (.tup (cutD ds lo hi))
  | _ => False
def pMeth (C : Addr) (m : Str) (S : PSp) (T : PE') (U : PA') : PE' := fun ρ Q => T ρ fun
  | .obj C' ks ds => C' = C ∧ ks.contains m = false ∧ U ρ fun es => oD (cls es) fun fs => S (.obj C' ks ds :: (fs ++ [])) Q
  | _ => False
theorem a_pRevT (T : PE') (U : PO') (ρ : List Sl) (Q : Dt → Prop) : (pRevT T U : PE') ρ Q = (T ρ fun d => U ρ fun o => o = some (-1) ∧ match d with
  | .tup ds => Q (.tup ds.reverse)
  | _ => False) := rfl
theorem a_pSlA (u0 : List Sl) (d : Dt) (lo hi : Option Int) (Q : Dt → Prop) : pSlA u0 d lo hi Q = (match d with
  | .tup ds => Q (.tup (cutD ds lo hi))
  | _ => False) := rfl
theorem a_pMeth (C : Addr) (m : Str) (S : PSp) (T : PE') (U : PA') (ρ : List Sl) (Q : Dt → Prop) : (pMeth C m S T U : PE') ρ Q = (T ρ fun
  | .obj C' ks ds => C' = C ∧ ks.contains m = false ∧ U ρ fun es => oD (cls es) fun fs => S (.obj C' ks ds :: (fs ++ [])) Q
  | _ => False) := rfl
section
variable {K : PySem.W.Frag} {Z : Zc} {t : TE} {T : PE'} {ts : TO} {Ts : PO'} {ta : TA} {Ta : PA'} {C : Addr} {m : Str} {S : PSp}
theorem Rs.rvs {A : List Addr} {H : Hp} {ds : List Dt} {vs : List V} (r : Rs K A H ds vs) : Rs K A H ds.reverse vs.reverse := by
  induction ds generalizing vs with
  | nil =>
    rw [r.ni]
    exact .n
  | cons d ds ih =>
    obtain ⟨x, q, rfl, h1, h2⟩ := r.ci
    rw [List.reverse_cons, List.reverse_cons]
    exact (ih h2).app (.c h1 .n)
theorem s_rev (h1 : SimE K Z t T) (h2 : SimO K Z ts Ts) : SimE K Z (tRev K t ts) (pRevT T Ts) := ⟨fun A0 A σ ρ H G Q s h k => h1.run A0 A σ ρ H _ _ s h fun d v H1 x1 r1 q1 => by
  have s1 := s.ex x1
  refine h2.run A0 A σ ρ H1 _ _ s1 q1 fun o H2 x2 q2 => ?_
  obtain ⟨e, q⟩ := q2
  have r2 := r1.ex s x1 x2
  cases d with
  | tup ds =>
    obtain ⟨a, xs, rfl, ha, rs⟩ := r2.ti.ti
    refine ⟨e, a, xs, rfl, .inl (.inl ha), fun p hp => ?_⟩
    have s2 := s1.ex x2
    have xn := Ex.new (o := .tup xs.reverse) s2.g.pk hp
    exact k (.tup ds.reverse) _ _ (x1.tr (x2.tr xn)) (.of (.t upd_same (Rs.mv (s2.g.mv xn) _ _ (Rs.rvs rs)))) q
  | _ => exact False.elim q⟩
theorem cutV_all {lo hi : Option Int} {xs : List V} (h : HT.sIx xs.length 0 lo = 0 ∧ HT.sIx xs.length xs.length hi = xs.length) : cutV xs lo hi = xs := by
  unfold cutV
  rw [h.1, h.2]
  simp
theorem s_slA : SimSl K Z (rSlA K) pSlA := ⟨fun A0 A σ ρ H0 H x dx lo hi G Q s0 s r1 h k => by
  unfold pSlA at h
  split at h
  · rename_i ds
    obtain ⟨a, xs, rfl, h1, h2⟩ := r1.ti.ti
    refine ⟨a, xs, rfl, .inl (.inl h1), fun hw => ?_, fun hw p hp => ?_⟩
    · have e := cutV_all hw
      have r := cutD_Rs (lo := lo) (hi := hi) h2
      rw [e] at r
      exact k (.tup (cutD ds lo hi)) _ H (.rf s.g.pk) (.of (.t h1 r)) h
    · have xn := Ex.new (o := .tup (cutV xs lo hi)) s.g.pk hp
      exact k (.tup (cutD ds lo hi)) _ _ xn (.of (.t upd_same (Rs.mv (s.g.mv xn) _ _ (cutD_Rs h2)))) h
  · exact False.elim h⟩
theorem zip_none : ∀ {ks : List Str} {xs : List V}, ks.contains m = false → (ks.zip xs).lookup m = none
  | [], _, _ => rfl
  | k :: ks, [], _ => rfl
  | k :: ks, x :: xs, h => by
    rw [List.contains_cons, Bool.or_eq_false_iff] at h
    rw [List.zip_cons_cons, List.lookup_cons, h.1]
    exact zip_none h.2
theorem s_meth (h1 : SimE K Z t T) (h2 : SimA K Z ta Ta) : SimE K Z (tMeth C m (spD K Z S) [] E0 t ta) (pMeth C m S T Ta) := ⟨fun A0 A σ ρ H G Q s h k => h1.run A0 A σ ρ H _ _ s h fun d v H1 x1 r1 q1 => by
  cases d with
  | obj C' ks ds =>
    obtain ⟨rfl, hn, q⟩ := q1
    obtain ⟨a, dx, xs, rfl, hl, r2⟩ := r1.oi.oi
    have s1 := s.ex x1
    refine ⟨a, dx, ks.zip xs, rfl, hl, zip_none hn, ?_⟩
    refine h2.run A0 A σ ρ H1 _ _ s1 q fun es vs H2 x2 r3 q3 => ?_
    obtain ⟨fs, e, q⟩ := oD_of q3
    have r := cls_R s1.g r3 e
    exact ⟨A, .obj C' ks ds :: (fs ++ []), Q, (s1.ex x2).g, .c (R.mv (s1.g.mv x2) _ _ (.o hl r2)) (r.app .n), q, fun d v H' x r' q' => k d v H' ((x1.tr x2).tr x) (.of r') q'⟩
  | _ => exact False.elim q1⟩
end
def pParSO (i j : Nat) (T : PE') : PS' := fun P ρ => T ρ fun d => oD (cl d) fun d' => i < ρ.length ∧ j < ρ.length ∧ P.nx ((ρ.set i (.sh d')).set j (.own []))
theorem a_pParSO (i j : Nat) (T : PE') (P : Pe) (ρ : List Sl) : pParSO i j T P ρ = (T ρ fun d => oD (cl d) fun d' => i < ρ.length ∧ j < ρ.length ∧ P.nx ((ρ.set i (.sh d')).set j (.own []))) := rfl
section
variable {K : PySem.W.Frag} {Z : Zc} {i j : Nat} {te : TE} {Te : PE'}
/-- a value and a new empty list -/
theorem s_parSO (h1 : SimE K Z te Te) : SimS K Z (tPar i j (tCons te (tCons (tLst tNil) tNil))) (pParSO i j Te) := ⟨fun A0 A σ ρ H D P s h E => h1.run A0 A σ ρ H _ _ s h fun d v H1 x1 r1 q1 => by
  obtain ⟨d', e, hi, hj, q⟩ := oD_of q1
  have s2 : Sg K Z A0 A (σ.set i (some v)) H1 (ρ.set i (.sh d')) := (s.ex x1).put (cl_R s.g r1 e)
  refine ⟨Nat.zero_le _, fun p hp => ⟨_, _, rfl, ?_⟩⟩
  have xn : Ex Z H1 (upd H1 p (.lst [])) := Ex.new s2.g.pk hp
  obtain ⟨s3, w3⟩ := own_put (i := j) (ds := []) s2 xn (by rw [List.length_set]; exact hj) hp upd_same .n
  exact E.nx _ _ _ _ s3 ((Wr.ex s.g x1).tr w3) q⟩
end
theorem forGo0 (g : PG') (B : PS') (P : Pe) (ρ : List Sl) (h : P.nx ρ) : pForGo g B P [] ρ := h
theorem forGo1 (g : PG') (B : PS') (P : Pe) (d : Dt) (ds : List Dt) (ρ : List Sl) (h : ∀ N : List Sl → Prop, N = pForGo g B P ds → g d ρ fun ρ1 => B { nx := N, rt := P.rt, bk := P.nx, ct := N } ρ1) : pForGo g B P (d :: ds) ρ := h _ rfl
end Pv

set_option maxRecDepth 100000
set_option maxHeartbeats 4000000
namespace Pv
open PySem PySem.Spec PyProof.Rows L2 Xv
set_option exponentiation.threshold 3000
/-! ### gcd, lcm, sorted texts, pop of a list of one's own into another -/
def qGcd : PL' := fun _ xs Q => match xs with
  | [.int a, .int b] => Q (.int ((Nat.gcd a.natAbs b.natAbs : Nat) : Int))
  | _ => False
def rLcm : List V → Hp → VK → Prop := fun vs H Q => ∃ a b : Int, vs = [.int a, .int b] ∧ a.natAbs < 2 ^ 1000 ∧ b.natAbs < 2 ^ 1000 ∧ Q (.int ((Nat.lcm a.natAbs b.natAbs : Nat) : Int)) H
def qLcm : PL' := fun _ xs Q => match xs with
  | [.int a, .int b] => a.natAbs < 2 ^ 1000 ∧ b.natAbs < 2 ^ 1000 ∧ Q (.int ((Nat.lcm a.natAbs b.natAbs : Nat) : Int))
  | _ => False
theorem log_lt {n k : Nat} (h : n < 2 ^ k) (hk : 0 < k) : n.log2 < k := by
  by_cases h0 : n = 0
  · subst h0
    simpa using hk
  · exact (Nat.log2_lt h0).mpr h
section
variable {X : Cx}
theorem cr_lcm : CallR X (.builtin "math.lcm") rLcm := by
  intro pins s σ H vs us Q I r h
  obtain ⟨a, b, rfl, ha, hb, q⟩ := h
  obtain ⟨t, u, rfl⟩ := Vals.int2 r
  have h1 : (max 1 a.natAbs).log2 < 1000 := log_lt (by
    have : (1 : Nat) < 2 ^ 1000 := by decide +kernel
    omega) (by decide)
  have h2 : (max a.natAbs b.natAbs).log2 < 1000 := log_lt (by omega) (by decide)
  have hz : (Nat.lcm a.natAbs b.natAbs).log2 < 2000 := by
    by_cases h0 : Nat.lcm a.natAbs b.natAbs = 0
    · rw [h0]
      decide +kernel
    · have hl : Nat.lcm a.natAbs b.natAbs ≤ a.natAbs * b.natAbs := by
        unfold Nat.lcm
        exact Nat.div_le_self _ _
      refine log_lt (Nat.lt_of_le_of_lt hl ?_) (by decide)
      have hp : 0 < 2 ^ 1000 := Nat.pow_pos (by decide)
      have : a.natAbs * b.natAbs < 2 ^ 1000 * 2 ^ 1000 := by
        by_cases hb0 : b.natAbs = 0
        · rw [hb0, Nat.mul_zero]
          exact Nat.mul_pos hp hp
        · exact Nat.mul_lt_mul_of_lt_of_le ha (Nat.le_of_lt hb) hp
      rw [← Nat.pow_add] at this
      exact this
  have e : Nat.lcm 1 a.natAbs = a.natAbs := Nat.lcm_one_left _
  have g := PySem.W.mg_run_lcm a t b u (by omega) (by omega) (by rw [e]; exact Nat.lt_trans hz (by decide))
  rw [e] at g
  exact call_function_meets PySem.W.MGF.kind_lcm PySem.W.MGF.plain_lcm PySem.W.MGF.entry_lcm (PySem.W.MGF.args_lcm _ _) g.meets ⟨.int _, H, I.tok _, ⟨_, rfl⟩, q⟩
end
def popF (ds : List Dt) (k : Int) (P : Dt → List Dt → Prop) : Prop := oD (ixN ds.length k) fun j => oD ds[j]? fun d => P d (ds.eraseIdx j)
/-- found.append(left.pop(e)) -/
def pAppPop (i j : Nat) (Te : PE') : PS' := fun P ρ => i ≠ j ∧ ownD ρ[i]? fun fs => ownD ρ[j]? fun ds => Te ρ (iD fun k => -(2 ^ 63) ≤ k ∧ k < 2 ^ 63 ∧ fs.length < sizeLine ∧ popF ds k fun d es => P.nx ((ρ.set j (.own es)).set i (.own (fs ++ [d]))))
theorem a_pAppPop (i j : Nat) (Te : PE') (P : Pe) (ρ : List Sl) : pAppPop i j Te P ρ = (i ≠ j ∧ ownD ρ[i]? fun fs => ownD ρ[j]? fun ds => Te ρ (iD fun k => -(2 ^ 63) ≤ k ∧ k < 2 ^ 63 ∧ fs.length < sizeLine ∧ popF ds k fun d es => P.nx ((ρ.set j (.own es)).set i (.own (fs ++ [d]))))) := rfl
section
variable {K : PySem.W.Frag} {Z : Zc} {i j : Nat} {te : TE} {Te : PE'}
theorem q_gcd : SimL K Z rGcd qGcd := ⟨fun A0 A σ ρ H0 H xs ds G Q s0 s r h k => by
  unfold qGcd at h
  split at h
  · obtain ⟨v, vs, rfl, r1, r2⟩ := r
    obtain ⟨w, ws, rfl, r3, r4⟩ := r2
    have e4 : ws = [] := r4
    subst e4
    exact ⟨_, _, by rw [r1.ii, r3.ii], k _ _ H (.rf s.g.pk) (.of (.i _)) h⟩
  · exact False.elim h⟩
theorem q_lcm : SimL K Z rLcm qLcm := ⟨fun A0 A σ ρ H0 H xs ds G Q s0 s r h k => by
  unfold qLcm at h
  split at h
  · obtain ⟨v, vs, rfl, r1, r2⟩ := r
    obtain ⟨w, ws, rfl, r3, r4⟩ := r2
    have e4 : ws = [] := r4
    subst e4
    exact ⟨_, _, by rw [r1.ii, r3.ii], h.1, h.2.1, k _ _ H (.rf s.g.pk) (.of (.i _)) h.2.2⟩
  · exact False.elim h⟩
theorem seqIx {n : Nat} {k : Int} {j : Nat} (h : ixN n k = some j) : seqIndex? k n = some j := by
  unfold ixN at h
  unfold seqIndex?
  by_cases h0 : 0 ≤ k
  · rw [if_pos h0] at h
    by_cases h1 : k < n
    · rw [if_pos h1] at h
      have e : (if k < 0 then k + (n : Int) else k) = k := if_neg (by omega)
      simp only [e]
      rw [if_pos (by simp; omega)]
      exact h
    · rw [if_neg h1] at h
      cases h
  · rw [if_neg h0] at h
    by_cases h1 : -(n : Int) ≤ k
    · rw [if_pos h1] at h
      have e : (if k < 0 then k + (n : Int) else k) = k + n := if_pos (by omega)
      simp only [e]
      rw [if_pos (by simp; omega)]
      exact h
    · rw [if_neg h1] at h
      cases h
theorem s_appPop (h1 : SimE K Z te Te) : SimS K Z (tDrop (tBM K "list" rAppend (tVar i) (tCons (tBM K "list" rPopAt (tVar j) (tCons te tNil)) tNil))) (pAppPop i j Te) := ⟨fun A0 A σ ρ H D P s h E => by
  obtain ⟨hij, h⟩ := h
  obtain ⟨fs, e, h⟩ := ownD_of h
  obtain ⟨ds, f, h⟩ := ownD_of h
  obtain ⟨a, xs, e1, e2, e3, e4, e5⟩ := s.er.ow i fs e
  obtain ⟨b, ys, f1, f2, f3, f4, f5⟩ := s.er.ow j ds f
  refine ⟨.ref a, e1, Or.inl ⟨rfl, _, Or.inl (Or.inl e4)⟩, ?_⟩
  refine ⟨.ref b, f1, Or.inl ⟨rfl, _, Or.inl (Or.inl f4)⟩, ?_⟩
  refine h1.run A0 A σ ρ H _ _ s h fun d v H1 x1 r1 q1 => ?_
  obtain ⟨kk, rfl, k1, k2, hl, q⟩ := iD_of q1
  obtain ⟨jj, hj, q⟩ := oD_of q
  obtain ⟨dd, hd, q⟩ := oD_of q
  cases r1.ii
  have s1 := s.ex x1
  have f4' : H1 b = some (.lst ys) := x1.kp _ _ (fun z => f3 (s.p0 b z)) f4
  have f5' := Rs.mv (s.g.mv x1) _ _ f5
  have e4' : H1 a = some (.lst xs) := x1.kp _ _ (fun z => e3 (s.p0 a z)) e4
  have e5' := Rs.mv (s.g.mv x1) _ _ e5
  obtain ⟨y, hy, ry⟩ := f5'.at_ hd
  have hab : a ≠ b := fun z => by
    subst z
    exact s.er.dis i j fs ds a hij e f e1 f1
  refine ⟨b, ys, kk, jj, y, rfl, rfl, f4', k1, k2, by rw [f5'.len]; exact seqIx hj, hy, ?_⟩
  obtain ⟨s2, w2⟩ := s1.own f f1 (f5'.er jj)
  have e4'' : (upd H1 b (.lst (ys.eraseIdx jj))) a = some (.lst xs) := by
    rw [upd_ne hab]
    exact e4'
  refine ⟨a, xs, y, rfl, rfl, e4'', by rw [e5'.len]; exact hl, ?_⟩
  have m : Mv A H1 (upd H1 b (.lst (ys.eraseIdx jj))) := ⟨fun c o n q => by
    rw [upd_ne (fun z => n (by rw [z]; exact f2))]
    exact q, s1.g.lv⟩
  have e' : (ρ.set j (.own (ds.eraseIdx jj)))[i]? = some (.own fs) := by
    rw [List.getElem?_set_ne (fun z => hij z.symm)]
    exact e
  obtain ⟨s3, w3⟩ := s2.own e' e1 ((Rs.mv m _ _ e5').app (.c (R.mv m _ _ ry) .n))
  exact E.nx A _ _ _ s3 ((Wr.ex s.g x1).tr (w2.tr w3)) q⟩
end
/-! list(text) -/
def rListS : List V → Hp → VK → Prop := fun xs H Q => ∃ z : Str, xs = [.str z] ∧ z.length ≤ 1000 ∧ ∀ p, H p = none → Q (.ref p) (upd H p (.lst (z.cps.toList.map fun c => V.str ⟨#[c]⟩)))
def qListS : PL' := fun _ xs Q => match xs with
  | [.str z] => z.length ≤ 1000 ∧ Q (.fre (z.cps.toList.map sgn))
  | _ => False
theorem a_qListS (ρ : List Sl) (xs : List Dt) (Q : Dt → Prop) : qListS ρ xs Q = (match xs with
  | [.str z] => z.length ≤ 1000 ∧ Q (.fre (z.cps.toList.map sgn))
  | _ => False) := rfl
theorem cr_listS {X : Cx} (hc : X.calm = true) : CallR X (.type "list") rListS := by
  intro pins s σ H xs us Q I r h
  obtain ⟨z, e, hz, q⟩ := h
  subst e
  obtain ⟨u, eu, rx⟩ := vals1 r
  subst eu
  obtain ⟨t, rfl⟩ := rx
  have hz' : z.cps.size ≤ 1000 := hz
  refine call_list_str (I.ok.hd hc) z t (fun h' tk acc' c' hkeep hS hacc => ?_) (by rw [sizeLine_eq]; omega)
  refine ⟨.ref s.heap.objs.size, upd H s.heap.objs.size (.lst (z.cps.toList.map fun c => V.str ⟨#[c]⟩)), I.laid (t' := tk) hkeep (Nat.le_refl _) (show ObjOk X.prog X.w _ _ _ (.lst (z.cps.toList.map fun c => V.str ⟨#[c]⟩)) from ⟨?_, acc'.toList, c', ?_, ?_⟩), rfl, q _ (I.hok.fresh (Nat.le_refl _))⟩
  · rw [List.length_map, Array.length_toList, sizeLine_eq]
    omega
  · refine vals_of_at (by rw [List.length_map, Array.length_toList, Array.length_toList, hacc.1]) fun j x w h1 h2 => ?_
    obtain ⟨c, v, h3, rfl⟩ := hacc.2 j w (by rw [← Array.getElem?_toList]; exact h2)
    rw [List.getElem?_map, Array.getElem?_toList, h3] at h1
    cases h1
    exact ⟨_, rfl⟩
  · rw [Array.toArray_toList]
    exact hS
theorem Rs.signs {K : PySem.W.Frag} {A : List Addr} {H : Hp} : ∀ cs : List Nat, Rs K A H (cs.map sgn) (cs.map fun c => V.str ⟨#[c]⟩)
  | [] => .n
  | c :: cs => .c (.s _) (Rs.signs cs)
theorem q_listS {K : PySem.W.Frag} {Z : Zc} : SimL K Z rListS qListS := ⟨fun A0 A σ ρ H0 H xs ds G Q s0 s r h k => by
  unfold qListS at h
  split at h
  · rename_i z
    obtain ⟨v, rfl, r1⟩ := r.one
    have e := r1.si
    subst e
    refine ⟨_, rfl, h.1, fun p h0 => ?_⟩
    have xn := Ex.new (o := .lst (z.cps.toList.map fun c => V.str ⟨#[c]⟩)) s.g.pk h0
    exact k (.fre _) _ _ xn ⟨p, _, rfl, h0, upd_same, Rs.signs _⟩ h.2
  · exact False.elim h⟩
end Pv

set_option maxRecDepth 100000
set_option maxHeartbeats 4000000
namespace Pv
open PySem PySem.Spec PyProof.Rows L2 Xv
/-! ### sorted(set(list of ints)) -/
section
variable {P : Program} {w : World} {A : Around} {E : Value → Shared → Prop} {s : Shared}
abbrev bareSet (w : World) : Obj := { cls := .type "set", dict := none, data := .set #[] 0 (.fresh 0 0 (!w.params.followText "set-order")) }
theorem set_of_list {l : Addr} {items : Array Value} (ns : List Int) {Q : Value → Shared → Prop} (hh : A.handled = none) (hl : s.heap.IsList l items) (hi : IntsAre items.toList ns) (hb : ns.length + 1 < scanBound)
    (h : ∀ (h' : Heap) (tk c : Nat), SetR w h' s.heap.objs.size (fun j => decide (j ∈ ns)) c → c ≤ ns.length → (∀ b o, s.heap.get? b = some o → h'.get? b = some o) → Q (.ref s.heap.objs.size) { s with heap := h', toks := tk }) :
    wpAny (model P w) A (call (.type "set") [.ref l]) Q E s := by
  have sz : items.size = ns.length := by
    rw [← Array.length_toList]
    exact IntsAre.length hi
  obtain ⟨c0, t0, hmro⟩ := F.called_set.mro
  have hmade := F.called_set.made
  have hsub := F.called_set.sub
  have k1 := F.called_set.notType
  have k2 := F.called_set.canCreate
  have k3 := F.typeCall_set_1 (.ref l)
  refine wpAny_call (codeAny_of_tree ?_)
  show wpAny _ _ (callAny (.type "set") _) _ _ _
  refine wpAny_pure ⟨Code.quiet_builtin _ (by decide +kernel), codeAny_builtin F.entry_type_call ?_⟩
  rw [Around.under_plain (weight_type_call_type "set" [.ref l] []) rfl]
  repeat (any_goals (first | assumption | wp_step))
  have made : codeAny (model P w) A.in1 (.call (.builtin "set.__new__") ⟨[.type "set", .ref l], []⟩) (wants (fun obj s1 => obj = .ref s.heap.objs.size ∧ s1 = { s with heap := s.heap.push (bareSet w) }) E) s := code_set_led1 _ ⟨rfl, rfl⟩
  refine codeAny_mono made fun r s1 hr => ?_
  cases r with
  | error e => exact hr
  | ok fl =>
  cases fl with
  | ret obj =>
    obtain ⟨rfl, rfl⟩ := hr
    have hS : (s.heap.push (bareSet w)).get? s.heap.objs.size = some (bareSet w) := Heap.get?_push_size _ rfl
    have hT : Shared.TypeIs { s with heap := s.heap.push (bareSet w) } (.ref s.heap.objs.size) "set" := ⟨_, hS, rfl⟩
    have k4 := F.called_set.init.lookup
    have k5 := F.called_set.init.bind (.ref s.heap.objs.size)
    repeat (any_goals (first | assumption | wp_step))
    let Good : Value → Shared → Prop := fun r s2 => r = .none ∧ ∃ h' tk c, s2 = { s with heap := h', toks := tk } ∧ SetR w h' s.heap.objs.size (fun j => decide (j ∈ ns)) c ∧ c ≤ ns.length ∧ (∀ b o, s.heap.get? b = some o → h'.get? b = some o)
    refine codeAny_mono (codeAny_call_builtin (R := wants Good E) F.called_set.init.plain F.entry_set_init (check_set_init_1 hT ?_)) fun r2 s2 hr2 => ?_
    · obtain ⟨⟨lc, ld, lx, ls⟩, lo, e1, ln, e2⟩ := hl
      simp only at e1 e2
      subst e1 e2
      have lt : l < s.heap.objs.size := Heap.lt_size lo
      have lo1 : (s.heap.push (bareSet w)).get? l = some { cls := .type "list", dict := ld, data := .seq items ln, slots := ls } := Heap.get?_push_of_some _ lo
      have pl : (s.heap.push (bareSet w)).IsList l items := ⟨_, lo1, rfl, ln, rfl⟩
      have n1 := F.sub_list_set
      have n2 := F.sub_list_frozenset
      have n3 : (Value.type "list" == Value.type "dict") = false := by decide
      have grown : (s.heap.push (bareSet w)).objs.size = s.heap.objs.size + 1 := Heap.size_push ..
      have away : l ≠ (s.heap.push (bareSet w)).objs.size := by
        rw [grown]
        exact Nat.ne_of_lt (Nat.lt_succ_of_lt lt)
      have nin : s.heap.objs.size ∉ [(s.heap.push (bareSet w)).objs.size, l] := fun z => by
        rcases List.mem_cons.mp z with z | z
        · rw [grown] at z
          exact absurd z (Nat.ne_of_lt (Nat.lt_succ_self _))
        · exact absurd (List.mem_singleton.mp z) (Nat.ne_of_gt lt)
      have each : ∀ (i : Nat) (v : Value), items[i]? = some v → ∃ k t, ns[i]? = some k ∧ v = .int k t := fun i v hv => by
        have hi2 : i < ns.length := by
          rw [← sz]
          exact (Array.getElem?_eq_some_iff.mp hv).1
        obtain ⟨t, e⟩ := PyProof.Rows.IntsAre.int_at hi i v (by rw [Array.getElem?_toList]; exact hv)
        rw [List.getD_eq_getElem?_getD, List.getElem?_eq_getElem hi2] at e
        exact ⟨_, t, List.getElem?_eq_getElem hi2, e⟩
      have still : A.in1.in1.in1.handled = none := by simp [hh]
      unfold Builtin.«set.__init__» noKeywords Builtin.Frozenset.updateFrom
      generalize hit : pyIter = it
      wp_walk
      subst hit
      refine wpAny_pyIter_list pl (wpAny_bind (wpAny_runValue ?_))
      refine set_update_ints ((Walks.list still _ l away items).toS) s.heap.objs.size nin ns sz hb each (items.size - 0) 0 _ rfl (Nat.zero_le _) ⟨⟨_, Heap.get?_push_size _ rfl, rfl, rfl⟩, pl.push _⟩ ?_ ?_
      · exact ⟨0, Nat.le_refl 0, setR_new_at (Heap.get?_push_of_some _ hS)⟩
      · intro s' c hm hc hR
        obtain ⟨h', g2, d2, tk, os2⟩ := s'
        have eg := hm.gens
        have ed := hm.drawn
        have eo := hm.os
        simp only at eg ed eo
        subst eg ed eo
        show wpAny _ _ _ _ _ _
        refine wpAny_pure ?_
        show wpAny _ _ (ret Value.none) _ _ _
        refine wpAny_pure ⟨rfl, h', tk, c, rfl, hR, by rw [← sz]; exact hc, fun b o e => ?_⟩
        have hb0 : b < s.heap.objs.size := Heap.lt_size e
        refine hm.heap b o (fun z => ?_) (Heap.get?_push_of_some _ (Heap.get?_push_of_some _ e))
        rcases List.mem_cons.mp z with z | z
        · exact absurd z (Nat.ne_of_lt hb0)
        · have z2 := List.mem_singleton.mp z
          rw [grown] at z2
          exact absurd z2 (Nat.ne_of_lt (Nat.lt_succ_of_lt hb0))
    · cases r2 with
      | error e => exact hr2
      | ok fl2 =>
        cases fl2 with
        | ret r =>
          obtain ⟨rfl, h', tk, c, rfl, hR, hc, hk⟩ := hr2
          repeat (any_goals (first | assumption | wp_step))
          exact h _ _ _ hR hc hk
        | _ => exact hr2.elim
  | _ => exact hr.elim
end
end Pv

set_option maxRecDepth 100000
set_option maxHeartbeats 4000000
namespace Pv
open PySem PySem.Spec PyProof.Rows L2 Xv
def rSetL (K : PySem.W.Frag) (w : World) : List V → Hp → VK → Prop := fun vs H Q => ∃ (a : Addr) (ns : List Int), vs = [.ref a] ∧ SqL K H a (ns.map V.int) ∧ ns.length < 64 ∧
  ∀ (p : Addr) (c : Nat), H p = none → c ≤ ns.length → Q (.ref p) (upd H p (SetO w p (fun j => decide (j ∈ ns)) c))
theorem cr_setL {X : Cx} (hc : X.calm = true) : CallR X (.type "set") (rSetL X.K X.w) := by
  intro pins s σ H vs us Q I r h
  obtain ⟨a, ns, rfl, hs, h64, q⟩ := h
  rw [Vals.ref1 r]
  obtain ⟨its, rv, hl, _⟩ := I.list hs
  have hi := rv.ints
  refine set_of_list ns (I.ok.hd hc) hl.isList (by simpa using hi) (by unfold scanBound; omega) fun h' tk c hR hcn hk => ?_
  exact ⟨.ref s.heap.objs.size, _, I.laid (t' := tk) hk (Nat.le_refl _) (setO_new hR), rfl, q _ c (I.hok.fresh (Nat.le_refl _)) hcn⟩
def pSortSet (T : PE') : PE' := fun ρ Q => T ρ fun d => oD (asL ρ d) fun ds => oD (allI ds) fun ns => ns.length < 64 ∧ ∀ out : List Int, out.Pairwise (· < ·) → (∀ k : Int, k ∈ out ↔ k ∈ ns) → Q (.fre (out.map .int))
theorem a_pSortSet (T : PE') (ρ : List Sl) (Q : Dt → Prop) : pSortSet T ρ Q = (T ρ fun d => oD (asL ρ d) fun ds => oD (allI ds) fun ns => ns.length < 64 ∧ ∀ out : List Int, out.Pairwise (· < ·) → (∀ k : Int, k ∈ out ↔ k ∈ ns) → Q (.fre (out.map .int))) := rfl
section
variable {K : PySem.W.Frag} {Z : Zc} {w : World} {te : TE} {Te : PE'}
theorem s_sortSet (h1 : SimE K Z te Te) : SimE K Z (tCB (rSortedSet w) (tCons (tCB (rSetL K w) (tCons te tNil)) tNil)) (pSortSet Te) := ⟨fun A0 A σ ρ H G Q s h k => h1.run A0 A σ ρ H _ _ s h fun d v H1 x1 r1 q1 => by
  obtain ⟨es, e, q2⟩ := oD_of q1
  obtain ⟨ns, e2, h64, q⟩ := oD_of q2
  have s1 := s.ex x1
  obtain ⟨a, xs, rfl, h1, h2⟩ := asL_R s1 r1 e
  rw [allI_Rs h2 e2] at h1
  refine ⟨a, ns, rfl, .inl (.inl h1), h64, fun p c hp hc => ?_⟩
  have x2 := Ex.new (o := SetO w p (fun j => decide (j ∈ ns)) c) s1.g.pk hp
  refine ⟨p, _, c, rfl, upd_same, by omega, fun out p2 ho hm hl h0 => ?_⟩
  have s2 := s1.ex x2
  have x3 := Ex.new (o := .lst (out.map V.int)) s2.g.pk h0
  have xx := x1.tr (x2.tr x3)
  refine k (.fre (out.map .int)) _ _ xx ?_ (q out ho fun k => by rw [hm]; simp)
  refine Rv.pre s.g.pk (x1.tr x2) ⟨p2, _, rfl, h0, upd_same, Rs.ints⟩⟩
end
end Pv

set_option maxRecDepth 100000
set_option maxHeartbeats 4000000
namespace Pv
open PySem PySem.Spec PyProof.Rows L2 Xv
def zLtS : R2 := fun x y H Q => ∃ i j : Str, x = .str i ∧ y = .str j ∧ Q (.bl (decide (i.cps.toList < j.cps.toList))) H
theorem o_ltS {X : Cx} : OpR X (compareOp .Lt) zLtS := op_lt_str
def pLtS : P2' := fun _ x y Q => match x, y with
  | .str i, .str j => Q (.bl (decide (i.cps.toList < j.cps.toList)))
  | _, _ => False
theorem a_pLtS (u0 : List Sl) (x y : Dt) (Q : Dt → Prop) : (pLtS : P2') u0 x y Q = (match x, y with
  | .str i, .str j => Q (.bl (decide (i.cps.toList < j.cps.toList)))
  | _, _ => False) := rfl
theorem a_pInL (f : Bool → Bool) (ρ : List Sl) (x y : Dt) (Q : Dt → Prop) : (pInL f : P2') ρ x y Q = (match x, y with
  | .str z, .tup ds => oD (allS ds) fun ws => Q (.bl (f (decide (z ∈ ws))))
  | .str z, d => oD (asL ρ d) fun ds => oD (allS ds) fun ws => Q (.bl (f (decide (z ∈ ws))))
  | _, _ => False) := by
  unfold pInL
  rfl
theorem a_pLc2 (I : List Sl → (List Dt → Prop) → Prop) (g : PG') (Tt : PT') (I1 : List Sl → (List Dt → Prop) → Prop) (g1 : PG') (Tt1 : PT') (Te : PE') (vs vs1 : List Nat) (ρ : List Sl) (Q : Dt → Prop) : (pLc2 I g Tt I1 g1 Tt1 Te vs vs1 : PE') ρ Q = (I ρ fun ds => pLc2Go g Tt I1 g1 Tt1 Te vs1 (wipeP ρ vs) (fun acc => Q (.fre acc)) ds []) := rfl
def pTruT (T : PE') : PT' := fun ρ Q => T ρ fun x => okT x ∧ oD (truD ρ x) Q
theorem a_pTruT (T : PE') (ρ : List Sl) (Q : Bool → Prop) : (pTruT T : PT') ρ Q = (T ρ fun x => okT x ∧ oD (truD ρ x) Q) := rfl
section
variable {K : PySem.W.Frag} {Z : Zc}
theorem s_tru {t : TE} {T : PE'} (h1 : SimE K Z t T) : SimT K Z (tTru K t) (pTruT T) := ⟨fun A0 A σ ρ H G Q s h k => h1.run A0 A σ ρ H _ _ s h fun d x H1 x1 r1 q1 => by
  obtain ⟨ok, q1⟩ := q1
  obtain ⟨b, e, q⟩ := oD_of q1
  exact ⟨b, tru_of (s.ex x1) r1 ok e, k b H1 x1 q⟩⟩
theorem k_ltS : Sim2 K Z zLtS pLtS := ⟨fun A0 A σ ρ H0 H x y dx dy G Q s0 s r1 r2 h k => by
  unfold pLtS at h
  split at h
  · rename_i i j
    exact ⟨i, j, r1.si, r2.si, k _ _ H (.rf s.g.pk) (.of (.b _)) h⟩
  · exact False.elim h⟩
variable {g g1 : PG'} {Tt Tt1 : PT'} {I1 : List Sl → (List Dt → Prop) → Prop} {Te : PE'} {vs1 : List Nat} {ρ : List Sl} {Q : List Dt → Prop}
theorem lc2_in {α : Type} (e : α → Dt) (f : α → Dt) {N : List Dt → Prop} : ∀ {cs : List α} {acc : List Dt}, (∀ c ∈ cs, ∀ (Y : Dt → Prop) (S : Prop), Y (f c) → turnC g1 Tt1 Te ρ (e c) Y S) → acc.length + cs.length ≤ 1000000 → N (acc ++ cs.map f) → pLc2In g1 Tt1 Te ρ N (cs.map e) acc
  | [], acc, _, _, q => by
    rw [List.map_nil, List.append_nil] at q
    exact q
  | c :: cs, acc, h, hl, q => by
    rw [List.length_cons] at hl
    refine h c List.mem_cons_self (fun y' => acc.length < sizeLine ∧ pLc2In g1 Tt1 Te ρ N (cs.map e) (acc ++ [y'])) _ ⟨by rw [sizeLine_eq]; omega, ?_⟩
    refine lc2_in e f (fun x hx => h x (List.mem_cons_of_mem _ hx)) (by rw [List.length_append, List.length_singleton]; omega) ?_
    rw [List.append_assoc]
    exact q
theorem lc2_go {α : Type} (e : α → Dt) (I : List α → List Dt → Prop)
    (step : ∀ c rest acc, I (c :: rest) acc → ∀ N : List Dt → Prop, (∀ acc', I rest acc' → N acc') → g (e c) ρ fun ρ1 => Tt ρ1 fun b => if b = true then I1 ρ1 fun es => pLc2In g1 Tt1 Te (wipeP ρ1 vs1) N es acc else N acc)
    (fin : ∀ acc, I [] acc → Q acc) : ∀ (cs : List α) (acc : List Dt), I cs acc → pLc2Go g Tt I1 g1 Tt1 Te vs1 ρ Q (cs.map e) acc
  | [], acc, i => fin acc i
  | c :: cs, acc, i => step c cs acc i _ fun acc' i' => lc2_go e I step fin cs acc' i'
end
end Pv

set_option maxRecDepth 100000
set_option maxHeartbeats 4000000
namespace Pv
open PySem PySem.Spec PyProof.Rows L2 Xv
section
variable {K : PySem.W.Frag} {Z : Zc}
theorem Lc.ex2 {A0 A : List Addr} {H1 H H2 : Hp} {σ : L2.St} {ρ : List Sl} {Da : Addr} {acc : List Dt} (hz : Z.p ≠ some Da) (l : Lc K Z A0 A σ ρ H1 Da acc H) (x : Ex Z H H2) : Lc K Z A0 A σ ρ H1 Da acc H2 := by
  obtain ⟨xs, e, r⟩ := l.d
  exact ⟨l.s.ex x, fun b o n m q => x.kp _ _ m (l.k b o n m q), xs, x.kp _ _ hz e, Rs.mv (l.s.g.mv x) _ _ r⟩
theorem s_lc2 {wi wi1 : TI} {I I1 : List Sl → (List Dt → Prop) → Prop} {js vs js1 vs1 : List Nat} {g g1 : TG} {p p1 : PG'} {tt tt1 : TT} {Tt Tt1 : PT'} {t : TE} {T : PE'} (hi : SimI K Z wi I) (hg : SimG K js g p) (ht : SimT K Z tt Tt)
    (hi1 : SimI K Z wi1 I1) (hg1 : SimG K js1 g1 p1) (ht1 : SimT K Z tt1 Tt1) (he : SimE K Z t T) (hj : ∀ i ∈ js, i ∈ vs) (hj1 : ∀ i ∈ js1, i ∈ vs1) : SimE K Z (tLc2 wi g tt wi1 g1 tt1 t vs vs1) (pLc2 I p Tt I1 p1 Tt1 T vs vs1) := ⟨fun A0 A σ ρ H G Q s h k => by
  refine hi.run A0 A σ ρ H _ _ s h fun J ds H1 x1 ito q => ?_
  intro Da hD
  have s1 := s.ex x1
  have hz : Z.p ≠ some Da := fun z => by
    obtain ⟨xs, e⟩ := s1.g.lv Da (s1.g.pA Da z)
    rw [hD] at e
    cases e
  refine ⟨fun i m H' => m = ds.length - i ∧ i ≤ ds.length ∧ ∃ acc, Lc K Z A0 A (L2.wipe σ vs) (wipeP ρ vs) H1 Da acc H' ∧ pLc2Go p Tt I1 p1 Tt1 T vs1 (wipeP ρ vs) (fun acc => Q (.fre acc)) (ds.drop i) acc, ⟨_, rfl, Nat.zero_le _, [], lc_start s1 hD vs, q⟩, ?_⟩
  rintro i m H' ⟨rfl, hi, acc, l, q'⟩
  have mvD : Mv A H1 H' := ⟨fun b o n e => l.k b o (fun z => by
    rw [z, hD] at e
    cases e) (fun z => n (s1.g.pA b z)) e, s1.g.lv⟩
  have it := ito (Da :: A) H' mvD (Nw.cons hD) i
  by_cases hl : i < ds.length
  · obtain ⟨hgo, hy⟩ := it.2 ds[i] (by simp [hl])
    refine .inr ⟨hgo, fun H2 => ∃ acc, Lc K Z A0 A (L2.wipe σ vs) (wipeP ρ vs) H1 Da acc H2 ∧ pLc2Go p Tt I1 p1 Tt1 T vs1 (wipeP ρ vs) (fun acc => Q (.fre acc)) (ds.drop (i + 1)) acc, fun H2 h2 => ⟨ds.length - (i + 1), by omega, rfl, hl, h2⟩, fun x H3 yl => ?_⟩
    obtain ⟨sm, r⟩ := hy x H3 yl
    have l3 := l.ex2 hz (.sm l.s.g.pk sm)
    have ed : ds.drop i = ds[i] :: ds.drop (i + 1) := List.drop_eq_getElem_cons hl
    rw [ed] at q'
    unfold pLc2Go at q'
    refine hg.run Z _ _ _ _ H3 _ x _ _ l3.s r q' fun σ4 ρ4 s4 o4 h4 => ?_
    have hlen : σ4.length = σ.length := by rw [o4.1, wipe_length]
    refine ⟨wipe_eq hlen hj fun i hi => o4.2 i hi, ?_⟩
    refine ht.run _ _ σ4 ρ4 H3 _ _ s4 h4 fun b H4 x4 h5 => ?_
    have l4 := l3.ex2 hz x4
    cases b with
    | false => exact ⟨acc, l4, h5⟩
    | true =>
      refine hi1.run _ _ σ4 ρ4 H4 _ _ (s4.ex x4) h5 fun J1 es H5 x5 ito1 q5 => ?_
      have s5 := (s4.ex x4).ex x5
      have l5 := l4.ex2 hz x5
      refine ⟨fun j k H' => k = es.length - j ∧ j ≤ es.length ∧ ∃ acc, Lc K Z A0 A (L2.wipe σ vs) (wipeP ρ vs) H1 Da acc H' ∧ Lc K Z A0 A (L2.wipe σ4 vs1) (wipeP ρ4 vs1) H5 Da acc H' ∧ pLc2In p1 Tt1 T (wipeP ρ4 vs1) (fun acc' => pLc2Go p Tt I1 p1 Tt1 T vs1 (wipeP ρ vs) (fun acc => Q (.fre acc)) (ds.drop (i + 1)) acc') (es.drop j) acc,
        ⟨_, rfl, Nat.zero_le _, acc, l5, ⟨⟨s5.g, s5.er.wipe vs1, s5.p0, s5.a0⟩, fun b o _ _ e => e, l5.d⟩, q5⟩, ?_⟩
      rintro j k6 H6 ⟨rfl, hj6, acc6, lo, li, q6⟩
      have mv6 : Mv (Da :: A) H5 H6 := ⟨fun b o n e => li.k b o (fun z => n (by rw [z]; exact List.mem_cons_self ..)) (fun z => n (s5.g.pA b z)) e, s5.g.lv⟩
      have it6 := ito1 (Da :: A) H6 mv6 Nw.rf j
      by_cases hl6 : j < es.length
      · obtain ⟨hgo6, hy6⟩ := it6.2 es[j] (by simp [hl6])
        refine .inr ⟨hgo6, fun H2 => ∃ acc, Lc K Z A0 A (L2.wipe σ vs) (wipeP ρ vs) H1 Da acc H2 ∧ Lc K Z A0 A (L2.wipe σ4 vs1) (wipeP ρ4 vs1) H5 Da acc H2 ∧ pLc2In p1 Tt1 T (wipeP ρ4 vs1) (fun acc' => pLc2Go p Tt I1 p1 Tt1 T vs1 (wipeP ρ vs) (fun acc => Q (.fre acc)) (ds.drop (i + 1)) acc') (es.drop (j + 1)) acc, fun H2 h2 => ⟨es.length - (j + 1), by omega, rfl, hl6, h2⟩, fun x7 H7 yl7 => ?_⟩
        obtain ⟨sm7, r7⟩ := hy6 x7 H7 yl7
        have lo7 := lo.ex2 hz (.sm lo.s.g.pk sm7)
        have li7 := li.ex2 hz (.sm lo.s.g.pk sm7)
        have ed6 : es.drop j = es[j] :: es.drop (j + 1) := List.drop_eq_getElem_cons hl6
        rw [ed6] at q6
        unfold pLc2In at q6
        refine hg1.run Z _ _ _ _ H7 _ x7 _ _ li7.s r7 q6 fun σ8 ρ8 s8 o8 h8 => ?_
        have hlen8 : σ8.length = σ4.length := by rw [o8.1, wipe_length]
        refine ⟨wipe_eq hlen8 hj1 fun i hi => o8.2 i hi, ?_⟩
        refine ht1.run _ _ σ8 ρ8 H7 _ _ s8 h8 fun b H8 x8 h9 => ?_
        have lo8 := lo7.ex2 hz x8
        have li8 := li7.ex2 hz x8
        cases b with
        | false => exact ⟨acc6, lo8, li8, h9⟩
        | true =>
          refine he.run _ _ σ8 ρ8 H8 _ _ (s8.ex x8) h9 fun y v H9 x9 r9 h10 => ?_
          obtain ⟨y', e10, hl10, h10⟩ := oD_of h10
          have r10 := cl_R (s8.ex x8).g r9 e10
          obtain ⟨xs, e11, e12, lo11⟩ := (lo8.ex2 hz x9).put hz r10
          obtain ⟨xs', e13, _, li11⟩ := (li8.ex2 hz x9).put hz r10
          have e14 : xs' = xs := by
            have z := e13.symm.trans e11
            cases z
            rfl
          subst e14
          exact ⟨_, e11, by rw [e12]; exact hl10, acc6 ++ [y'], lo11, li11, h10⟩
      · have e : j = es.length := by omega
        subst e
        rw [List.drop_length] at q6
        exact .inl ⟨it6.1 rfl, acc6, lo, q6⟩
  · have e : i = ds.length := by omega
    subst e
    rw [List.drop_length] at q'
    obtain ⟨xs, e1, e2⟩ := l.d
    exact .inl ⟨it.1 rfl, k (.fre acc) _ _ ⟨fun b o n h => l.k b o (fun z => by
      have := x1.kp b o n h
      rw [z, hD] at this
      cases this) n (x1.kp b o n h), l.s.g.pk⟩ ⟨Da, xs, rfl, x1.lv s.g.pk hD, e1, e2⟩ q'⟩⟩
end
end Pv

set_option maxRecDepth 100000
set_option maxHeartbeats 4000000
namespace Lw
open PySem PySem.Spec PyProof.Rows L2 Xv Pv
local macro_rules | `(tactic| walk_at "pp") => `(tactic| simp only [rho, List.map_cons, List.map_nil, List.length_cons, List.length_nil, Nat.reduceAdd, Nat.reduceSub, List.replicate_zero, List.replicate_succ, List.cons_append, List.nil_append, a_pSeq, a_pRet, a_pRetN, a_pNext, a_pIfS, a_pSet, a_pOwn, a_pDrop, a_pPar, a_pPar3, a_pApp, a_pSetI, a_pAsg, a_pNever, a_pV, a_pC, a_pOp, a_pUn, a_pCB, a_pNil, a_pCons, a_pTest, a_pAnd, a_pOr, a_pNot, a_pAndV, a_pOrV, a_pNotV, a_pIf, a_pTup, a_pLst, a_pCall, a_pKw, a_pBMs, a_pChain, a_pOrT, a_pNotT, a_pThen, a_pSl, a_pNoPart, a_pPart, a_pLc, a_pFor, a_piList, a_piTup, a_piStr, a_piRng1, a_piRng2, a_piZip, a_piEnum, a_pYes, bD, iD, sD, lD, tD, oD, ownD, cl, cls, rv, asL, a_p0I, a_pCI, a_pEq, a_pAddS, a_pCat, a_pCatT, a_pIxL, a_pIxT, a_pIxS, a_pNeg, a_pSlL, a_pSlT, a_pSlS, a_qLen, a_qInt, a_qAbs, a_qMax, a_qMin, a_qStrI, a_qIsi, a_qSum, a_qAll, a_qAny, a_qList, a_qTup, a_mJoin, tyD, clD, truD, okT, wd_lst, wd_fre, wd_tup, wd_str, a_pgName, pgTup, pgCons, pgNil, a_pgStar, kit_ss, kit_si, kit_sb, kit_st, kit_ii, kit_ib, kit_is, kit_it, kit_tt, kit_ts, kit_ti, kit_bi, kit_bb, kit_bs, kit_bt, Bool.not_true, Bool.not_false, if_false, reduceCtorEq, Nat.reduceLT, Int.reduceLE, Int.reduceLT, Int.reduceEq, decide_true, decide_false, wipeP, List.getElem?_cons_zero, List.getElem?_cons_succ, List.getElem?_nil, List.set_cons_zero, List.set_cons_succ, Option.map_some, if_true, Bool.false_eq_true, and_true, true_and, List.append_nil, a_qFn, at0, at1, at2, at3, a_pRet2, a_pRel, a_piRng3, a_pParO, eq_self, List.take_succ_cons, List.take_zero, List.drop_succ_cons, List.drop_zero, List.singleton_append, Nat.reduceLeDiff, Option.map_none, Option.toList_some, Option.toList_none, a_qMaxL, a_qRg1, a_piRg, a_pFld, a_qIsO, a_pProp])
def top (i : Nat) : Stmt := PySem.Challenge.pw_likelybook_k53_whole_sayings_of_orders.main.body.getD i (.Pass ⟨0, 0, 0, 0⟩)
section
variable {P : Program} {w : World} {K : PySem.W.Frag} {mg : Str → Option Value} {base : Heap} {Z : Zc}
abbrev s_is_lot : Stmt := top 8
theorem sc_is_lot : FnScope ["cases", "value", "case"] ["cases", "value"] (defScope s_is_lot) := ⟨rfl, rfl, rfl, by decide +kernel, rfl, by decide +kernel, by decide +kernel⟩
def S_is_lot : PSp := fun ds Q => ∃ z y, ds = [.str z, .str y] ∧ z.cps.size ≤ 1000 ∧ Q (.bl (decide (y = pickS z y)))
theorem h_is_lot {f : Addr} {fd : FuncData} (F : Fun K "is_lot" "is_lot" s_is_lot f fd) (m : mg "is_lot" = some (.ref f)) (B : Bn mg) : Has P w K mg base Z "is_lot" 1 ["cases", "value"] S_is_lot := by
  refine Has.of F m sc_is_lot (F.binds (fun _ _ _ _ _ _ us hl => match us, hl with | [_, _], _ => rfl)) (fun ds Q h => by obtain ⟨_, _, rfl, _⟩ := h; rfl) fun cdv A outer s H E hr => ?_
  refine ⟨_, _, (pss_one (ps_ret (pe_and (pe_callB (r := rIsi K) (by exact call_isi) (by rfl) B.isinstance (by decide +kernel) (pa_cons (pv 1) (pa_cons (pe_bltn (v := .ty "str") (u := .type "str") rfl B.str (by decide +kernel) rfl) pa_nil))) (pe_one (pe_cmpR op_eq (pv 1) (pe_bm (r := zJoin K) PySem.F.plainAttrs_str PySem.F.slot_str_join PySem.F.type_str_join (by exact c_join) pe_str (pa_cons (pe_lc (own := [("case", 2)]) (wi := (iStr (tVar 0))) (g := (gName 2)) (tt := (tTest (tOp rInS (tVar 2) (tVar 1)))) (te := (tVar 2)) rfl sc_is_lot.nd (pi_str (pv 0)) (blkOk_by (N := ["cases", "value", "case"]) (sc := defScope s_is_lot) (by decide +kernel)) (fun _ _ _ _ _ => (pg_name (i := 2) sc_is_lot.nd rfl (by first | exact Or.inl rfl | exact Or.inr rfl))) (fun _ _ _ _ _ => (pts_one (pt_cmpR op_inS (pv 2) (pv 1) (by rfl)))) (fun _ _ _ _ _ => (pv 2))) pa_nil)) (nomark _)))))), (s_ret (s_andV (s_cb q_isi (s_cons s_var (s_cons s_ty s_nil))) (s_op s_eq s_var (s_bms k_join s_str (s_cons (s_lc (s_iStr s_var) s_gName (s_test (s_op s_inS s_var s_var)) s_var (by decide)) s_nil))))), fun ds Q h => ?_⟩
  obtain ⟨z, y, rfl, hz, q⟩ := h
  walk_at "pp"
  have hz' : z.cps.toList.length ≤ 1000 := by simpa using hz
  refine lc_fm sgn (fun c => decide (c ∈ y.cps.toList)) sgn (fun c _ Y S h1 h2 => ?_) (by simp only [List.length_nil]; omega) ?_
  · refine ⟨c, y, rfl, rfl, ?_⟩
    exact dec2 (fun z => h1 (decide_eq_true z)) fun z => h2 (decide_eq_false z)
  · rw [List.nil_append, allS_sgn]
    refine ⟨?_, ?_⟩
    · have l := List.length_filter_le (fun c => decide (c ∈ y.cps.toList)) z.cps.toList
      rw [sum_one, List.length_map]
      show _ + _ * 0 ≤ _
      omega
    · show Q (.bl (decide (y = Txt.join "" _)))
      rw [Pv.join_one]
      exact q
abbrev s_are_cases : Stmt := top 10
theorem sc_are_cases : FnScope ["value"] ["value"] (defScope s_are_cases) := ⟨rfl, rfl, rfl, by decide +kernel, rfl, by decide +kernel, by decide +kernel⟩
def S_are_cases : PSp := fun ds Q => ∃ z, ds = [.str z] ∧ CaseOk z ∧ Q (.bl true)
theorem h_are_cases {f : Addr} {fd : FuncData} (F : Fun K "are_cases" "are_cases" s_are_cases f fd) (m : mg "are_cases" = some (.ref f)) (B : Bn mg) (H_is_lot : Has P w K mg base Z "is_lot" 1 ["cases", "value"] S_is_lot) (C_LETTERS : ∃ t, mg "LETTERS" = some (.str "abcdefghijklmnopqrstuvwxyz" t)) (C_LEAST_CASES : ∃ t, mg "LEAST_CASES" = some (.int 2 t)) (C_MOST_CASES : ∃ t, mg "MOST_CASES" = some (.int 6 t)) : Has P w K mg base Z "are_cases" 2 ["value"] S_are_cases := by
  obtain ⟨f_is_lot, d_is_lot, m_is_lot, k_is_lot, b_is_lot, G_is_lot⟩ := H_is_lot.ex
  obtain ⟨t_LETTERS, g_LETTERS⟩ := C_LETTERS
  obtain ⟨t_LEAST_CASES, g_LEAST_CASES⟩ := C_LEAST_CASES
  obtain ⟨t_MOST_CASES, g_MOST_CASES⟩ := C_MOST_CASES
  refine Has.of F m sc_are_cases (F.binds (fun _ _ _ _ _ _ us hl => match us, hl with | [_], _ => rfl)) (fun ds Q h => by obtain ⟨_, rfl, _⟩ := h; rfl) fun cdv A outer s H E hr => ?_
  refine ⟨_, _, (pss_one (ps_ret (pe_and (pe_call G_is_lot (hr.mono (by decide)) rfl m_is_lot k_is_lot b_is_lot .nil pass0 (pa_cons (pe_glob (v := .str "abcdefghijklmnopqrstuvwxyz") (u := .str "abcdefghijklmnopqrstuvwxyz" t_LETTERS) rfl g_LETTERS ⟨_, rfl⟩) (pa_cons (pv 0) pa_nil))) (pe_one (pe_chain o_le o_le (pe_glob (v := .int 2) (u := .int 2 t_LEAST_CASES) rfl g_LEAST_CASES ⟨_, rfl⟩) (pe_callB (r := zLen K) (by exact c_len) (by rfl) B.len PySem.boot_len (pa_cons (pv 0) pa_nil)) (pe_glob (v := .int 6) (u := .int 6 t_MOST_CASES) rfl g_MOST_CASES ⟨_, rfl⟩)))))), (s_ret (s_andV (s_call (s_cons s_str (s_cons s_var s_nil))) (s_chain k_le k_le s_int (s_cb k_len (s_cons s_var s_nil)) s_int))), fun ds Q h => ?_⟩
  obtain ⟨z, rfl, hz, q⟩ := h
  walk_at "pp"
  refine ⟨_, z, rfl, by decide, ?_⟩
  have e := pick_part hz.p abc_nd
  have hl := hz.lo
  have hh := hz.hi
  refine dec2 (fun _ => ?_) fun n => (n e).elim
  rw [len_cps, sizeLine_eq]
  refine ⟨by omega, dec2 (fun _ => ?_) fun n => (n (by omega)).elim⟩
  rw [show decide ((z.cps.toList.length : Int) ≤ 6) = true from decide_eq_true (by omega)]
  exact q
abbrev s_check_cases : Stmt := top 12
theorem sc_check_cases : FnScope ["cases"] ["cases"] (defScope s_check_cases) := ⟨rfl, rfl, rfl, by decide +kernel, rfl, by decide +kernel, by decide +kernel⟩
def S_check_cases : PSp := fun ds Q => ∃ z, ds = [.str z] ∧ CaseOk z ∧ Q .non
theorem h_check_cases {f : Addr} {fd : FuncData} (F : Fun K "check_cases" "check_cases" s_check_cases f fd) (m : mg "check_cases" = some (.ref f)) (B : Bn mg) (H_are_cases : Has P w K mg base Z "are_cases" 2 ["value"] S_are_cases) : Has P w K mg base Z "check_cases" 3 ["cases"] S_check_cases := by
  obtain ⟨f_are_cases, d_are_cases, m_are_cases, k_are_cases, b_are_cases, G_are_cases⟩ := H_are_cases.ex
  refine Has.of F m sc_check_cases (F.binds (fun _ _ _ _ _ _ us hl => match us, hl with | [_], _ => rfl)) (fun ds Q h => by obtain ⟨_, rfl, _⟩ := h; rfl) fun cdv A outer s H E hr => ?_
  refine ⟨_, _, (pss_one (ps_if (pt_not (pt_val (pe_call G_are_cases (hr.mono (by decide)) rfl m_are_cases k_are_cases b_are_cases .nil pass0 (pa_cons (pv 0) pa_nil)))) (pss_one ps_never) pss_nil)), (s_ifS (s_not (s_tB (s_call (s_cons s_var s_nil)))) s_never s_next), fun ds Q h => ?_⟩
  obtain ⟨z, rfl, hz, q⟩ := h
  walk_at "pp"
  exact ⟨z, rfl, hz, q⟩
end

local macro_rules | `(tactic| walk_at "pp") => `(tactic| simp only [rho, List.map_cons, List.map_nil, List.length_cons, List.length_nil, Nat.reduceAdd, Nat.reduceSub, List.replicate_zero, List.replicate_succ, List.cons_append, List.nil_append, a_pSeq, a_pRet, a_pRetN, a_pNext, a_pIfS, a_pSet, a_pOwn, a_pDrop, a_pPar, a_pPar3, a_pApp, a_pSetI, a_pAsg, a_pNever, a_pV, a_pC, a_pOp, a_pUn, a_pCB, a_pNil, a_pCons, a_pTest, a_pAnd, a_pOr, a_pNot, a_pAndV, a_pOrV, a_pNotV, a_pIf, a_pTup, a_pLst, a_pCall, a_pKw, a_pBMs, a_pChain, a_pOrT, a_pNotT, a_pThen, a_pSl, a_pNoPart, a_pPart, a_pLc, a_pFor, a_piList, a_piTup, a_piStr, a_piRng1, a_piRng2, a_piZip, a_piEnum, a_pYes, bD, iD, sD, lD, tD, oD, ownD, cl, cls, rv, asL, a_p0I, a_pCI, a_pEq, a_pAddS, a_pCat, a_pCatT, a_pIxL, a_pIxT, a_pIxS, a_pNeg, a_pSlL, a_pSlT, a_pSlS, a_qLen, a_qInt, a_qAbs, a_qMax, a_qMin, a_qStrI, a_qIsi, a_qSum, a_qAll, a_qAny, a_qList, a_qTup, a_mJoin, tyD, clD, truD, okT, wd_lst, wd_fre, wd_tup, wd_str, a_pgName, pgTup, pgCons, pgNil, a_pgStar, kit_ss, kit_si, kit_sb, kit_st, kit_ii, kit_ib, kit_is, kit_it, kit_tt, kit_ts, kit_ti, kit_bi, kit_bb, kit_bs, kit_bt, Bool.not_true, Bool.not_false, if_false, reduceCtorEq, Nat.reduceLT, Int.reduceLE, Int.reduceLT, Int.reduceEq, decide_true, decide_false, wipeP, List.getElem?_cons_zero, List.getElem?_cons_succ, List.getElem?_nil, List.set_cons_zero, List.set_cons_succ, Option.map_some, if_true, Bool.false_eq_true, and_true, true_and, List.append_nil, a_qFn, at0, at1, at2, at3, a_pRet2, a_pRel, a_piRng3, a_pParO, eq_self, List.take_succ_cons, List.take_zero, List.drop_succ_cons, List.drop_zero, List.singleton_append, Nat.reduceLeDiff, Option.map_none, Option.toList_some, Option.toList_none, a_qMaxL, a_qRg1, a_piRg, a_pFld, a_qIsO, a_pProp])
section
variable {P : Program} {w : World} {K : PySem.W.Frag} {mg : Str → Option Value} {base : Heap} {Z : Zc}
theorem part_len {z y : Str} (h : Part z y) : y.cps.toList.length ≤ z.cps.toList.length := h.length_le
def leanI (s : Say) (c : Nat) : Int := (if c ∈ s.a.cps.toList then 1 else 0) - (if c ∈ s.b.cps.toList then s.t else 0)
end

local macro_rules | `(tactic| walk_at "pp") => `(tactic| simp only [rho, List.map_cons, List.map_nil, List.length_cons, List.length_nil, Nat.reduceAdd, Nat.reduceSub, List.replicate_zero, List.replicate_succ, List.cons_append, List.nil_append, a_pSeq, a_pRet, a_pRetN, a_pNext, a_pIfS, a_pSet, a_pOwn, a_pDrop, a_pPar, a_pPar3, a_pApp, a_pSetI, a_pAsg, a_pNever, a_pV, a_pC, a_pOp, a_pUn, a_pCB, a_pNil, a_pCons, a_pTest, a_pAnd, a_pOr, a_pNot, a_pAndV, a_pOrV, a_pNotV, a_pIf, a_pTup, a_pLst, a_pCall, a_pKw, a_pBMs, a_pChain, a_pOrT, a_pNotT, a_pThen, a_pSl, a_pNoPart, a_pPart, a_pLc, a_pFor, a_piList, a_piTup, a_piStr, a_piRng1, a_piRng2, a_piZip, a_piEnum, a_pYes, bD, iD, sD, lD, tD, oD, ownD, cl, cls, rv, asL, a_p0I, a_pCI, a_pEq, a_pAddS, a_pCat, a_pCatT, a_pIxL, a_pIxT, a_pIxS, a_pNeg, a_pSlL, a_pSlT, a_pSlS, a_qLen, a_qInt, a_qAbs, a_qMax, a_qMin, a_qStrI, a_qIsi, a_qSum, a_qAll, a_qAny, a_qList, a_qTup, a_mJoin, tyD, clD, truD, okT, wd_lst, wd_fre, wd_tup, wd_str, a_pgName, pgTup, pgCons, pgNil, a_pgStar, kit_ss, kit_si, kit_sb, kit_st, kit_ii, kit_ib, kit_is, kit_it, kit_tt, kit_ts, kit_ti, kit_bi, kit_bb, kit_bs, kit_bt, Bool.not_true, Bool.not_false, if_false, reduceCtorEq, Nat.reduceLT, Int.reduceLE, Int.reduceLT, Int.reduceEq, decide_true, decide_false, wipeP, List.getElem?_cons_zero, List.getElem?_cons_succ, List.getElem?_nil, List.set_cons_zero, List.set_cons_succ, Option.map_some, if_true, Bool.false_eq_true, and_true, true_and, List.append_nil, a_qFn, at0, at1, at2, at3, a_pRet2, a_pRel, a_piRng3, a_pParO, eq_self, List.take_succ_cons, List.take_zero, List.drop_succ_cons, List.drop_zero, List.singleton_append, Nat.reduceLeDiff, Option.map_none, Option.toList_some, Option.toList_none, a_qMaxL, a_qRg1, a_piRg, a_pFld, a_qIsO, a_pProp])
section
variable {P : Program} {w : World} {K : PySem.W.Frag} {mg : Str → Option Value} {base : Heap} {Z : Zc}
theorem zip_maps {α β : Type} (f : α → Dt) (g : β → Dt) : ∀ (xs : List α) (ys : List β), List.zipWith (fun x y => Dt.tup [x, y]) (xs.map f) (ys.map g) = (xs.zip ys).map fun p => Dt.tup [f p.1, g p.2]
  | [], ys => by simp
  | x :: xs, [] => by simp
  | x :: xs, y :: ys => by
    rw [List.map_cons, List.map_cons, List.zipWith_cons_cons, zip_maps f g xs ys, List.zip_cons_cons, List.map_cons]
def nums {α : Type} : Nat → List α → List (Nat × α)
  | _, [] => []
  | k, x :: xs => (k, x) :: nums (k + 1) xs
theorem enum_maps {α : Type} (f : α → Dt) : ∀ (k : Nat) (xs : List α), enumD k (xs.map f) = (nums k xs).map fun p => Dt.tup [.int p.1, f p.2]
  | k, [] => rfl
  | k, x :: xs => by
    show Dt.tup [.int k, f x] :: enumD (k + 1) (xs.map f) = _
    rw [enum_maps f (k + 1) xs]
    rfl
theorem nums_mem {α : Type} {p : Nat × α} : ∀ {k : Nat} {xs : List α}, p ∈ nums k xs → p.2 ∈ xs ∧ p.1 < k + xs.length
  | k, [], h => by cases h
  | k, x :: xs, h => by
    rcases List.mem_cons.mp h with rfl | h
    · exact ⟨List.mem_cons_self, by rw [List.length_cons]; show k < _; omega⟩
    · obtain ⟨h1, h2⟩ := nums_mem h
      exact ⟨List.mem_cons_of_mem _ h1, by rw [List.length_cons]; omega⟩
end

local macro_rules | `(tactic| walk_at "pp") => `(tactic| simp only [rho, List.map_cons, List.map_nil, List.length_cons, List.length_nil, Nat.reduceAdd, Nat.reduceSub, List.replicate_zero, List.replicate_succ, List.cons_append, List.nil_append, a_pSeq, a_pRet, a_pRetN, a_pNext, a_pIfS, a_pSet, a_pOwn, a_pDrop, a_pPar, a_pPar3, a_pApp, a_pSetI, a_pAsg, a_pNever, a_pV, a_pC, a_pOp, a_pUn, a_pCB, a_pNil, a_pCons, a_pTest, a_pAnd, a_pOr, a_pNot, a_pAndV, a_pOrV, a_pNotV, a_pIf, a_pTup, a_pLst, a_pCall, a_pKw, a_pBMs, a_pChain, a_pOrT, a_pNotT, a_pThen, a_pSl, a_pNoPart, a_pPart, a_pLc, a_pFor, a_piList, a_piTup, a_piStr, a_piRng1, a_piRng2, a_piZip, a_piEnum, a_pYes, bD, iD, sD, lD, tD, oD, ownD, cl, cls, rv, asL, a_p0I, a_pCI, a_pEq, a_pAddS, a_pCat, a_pCatT, a_pIxL, a_pIxT, a_pIxS, a_pNeg, a_pSlL, a_pSlT, a_pSlS, a_qLen, a_qInt, a_qAbs, a_qMax, a_qMin, a_qStrI, a_qIsi, a_qSum, a_qAll, a_qAny, a_qList, a_qTup, a_mJoin, tyD, clD, truD, okT, wd_lst, wd_fre, wd_tup, wd_str, a_pgName, pgTup, pgCons, pgNil, a_pgStar, kit_ss, kit_si, kit_sb, kit_st, kit_ii, kit_ib, kit_is, kit_it, kit_tt, kit_ts, kit_ti, kit_bi, kit_bb, kit_bs, kit_bt, Bool.not_true, Bool.not_false, if_false, reduceCtorEq, Nat.reduceLT, Int.reduceLE, Int.reduceLT, Int.reduceEq, decide_true, decide_false, wipeP, List.getElem?_cons_zero, List.getElem?_cons_succ, List.getElem?_nil, List.set_cons_zero, List.set_cons_succ, Option.map_some, if_true, Bool.false_eq_true, and_true, true_and, List.append_nil, a_qFn, at0, at1, at2, at3, a_pRet2, a_pRel, a_piRng3, a_pParO, eq_self, List.take_succ_cons, List.take_zero, List.drop_succ_cons, List.drop_zero, List.singleton_append, Nat.reduceLeDiff, Option.map_none, Option.toList_some, Option.toList_none, a_qMaxL, a_qRg1, a_piRg, a_pFld, a_qIsO, a_pProp])
section
variable {P : Program} {w : World} {K : PySem.W.Frag} {mg : Str → Option Value} {base : Heap} {Z : Zc}
def leansF (z : Str) (s : Say) : List Int := z.cps.toList.map (leanI s)
end

local macro_rules | `(tactic| walk_at "pp") => `(tactic| simp only [rho, List.map_cons, List.map_nil, List.length_cons, List.length_nil, Nat.reduceAdd, Nat.reduceSub, List.replicate_zero, List.replicate_succ, List.cons_append, List.nil_append, a_pSeq, a_pRet, a_pRetN, a_pNext, a_pIfS, a_pSet, a_pOwn, a_pDrop, a_pPar, a_pPar3, a_pApp, a_pSetI, a_pAsg, a_pNever, a_pV, a_pC, a_pOp, a_pUn, a_pCB, a_pNil, a_pCons, a_pTest, a_pAnd, a_pOr, a_pNot, a_pAndV, a_pOrV, a_pNotV, a_pIf, a_pTup, a_pLst, a_pCall, a_pKw, a_pBMs, a_pChain, a_pOrT, a_pNotT, a_pThen, a_pSl, a_pNoPart, a_pPart, a_pLc, a_pFor, a_piList, a_piTup, a_piStr, a_piRng1, a_piRng2, a_piZip, a_piEnum, a_pYes, bD, iD, sD, lD, tD, oD, ownD, cl, cls, rv, asL, a_p0I, a_pCI, a_pEq, a_pAddS, a_pCat, a_pCatT, a_pIxL, a_pIxT, a_pIxS, a_pNeg, a_pSlL, a_pSlT, a_pSlS, a_qLen, a_qInt, a_qAbs, a_qMax, a_qMin, a_qStrI, a_qIsi, a_qSum, a_qAll, a_qAny, a_qList, a_qTup, a_mJoin, tyD, clD, truD, okT, wd_lst, wd_fre, wd_tup, wd_str, a_pgName, pgTup, pgCons, pgNil, a_pgStar, kit_ss, kit_si, kit_sb, kit_st, kit_ii, kit_ib, kit_is, kit_it, kit_tt, kit_ts, kit_ti, kit_bi, kit_bb, kit_bs, kit_bt, Bool.not_true, Bool.not_false, if_false, reduceCtorEq, Nat.reduceLT, Int.reduceLE, Int.reduceLT, Int.reduceEq, decide_true, decide_false, wipeP, List.getElem?_cons_zero, List.getElem?_cons_succ, List.getElem?_nil, List.set_cons_zero, List.set_cons_succ, Option.map_some, if_true, Bool.false_eq_true, and_true, true_and, List.append_nil, a_qFn, at0, at1, at2, at3, a_pRet2, a_pRel, a_piRng3, a_pParO, eq_self, List.take_succ_cons, List.take_zero, List.drop_succ_cons, List.drop_zero, List.singleton_append, Nat.reduceLeDiff, Option.map_none, Option.toList_some, Option.toList_none, a_qMaxL, a_qRg1, a_piRg, a_pFld, a_qIsO, a_pProp])
section
variable {P : Program} {w : World} {K : PySem.W.Frag} {mg : Str → Option Value} {base : Heap} {Z : Zc}
end

local macro_rules | `(tactic| walk_at "pp") => `(tactic| simp only [rho, List.map_cons, List.map_nil, List.length_cons, List.length_nil, Nat.reduceAdd, Nat.reduceSub, List.replicate_zero, List.replicate_succ, List.cons_append, List.nil_append, a_pSeq, a_pRet, a_pRetN, a_pNext, a_pIfS, a_pSet, a_pOwn, a_pDrop, a_pPar, a_pPar3, a_pApp, a_pSetI, a_pAsg, a_pNever, a_pV, a_pC, a_pOp, a_pUn, a_pCB, a_pNil, a_pCons, a_pTest, a_pAnd, a_pOr, a_pNot, a_pAndV, a_pOrV, a_pNotV, a_pIf, a_pTup, a_pLst, a_pCall, a_pKw, a_pBMs, a_pChain, a_pOrT, a_pNotT, a_pThen, a_pSl, a_pNoPart, a_pPart, a_pLc, a_pFor, a_piList, a_piTup, a_piStr, a_piRng1, a_piRng2, a_piZip, a_piEnum, a_pYes, bD, iD, sD, lD, tD, oD, ownD, cl, cls, rv, asL, a_p0I, a_pCI, a_pEq, a_pAddS, a_pCat, a_pCatT, a_pIxL, a_pIxT, a_pIxS, a_pNeg, a_pSlL, a_pSlT, a_pSlS, a_qLen, a_qInt, a_qAbs, a_qMax, a_qMin, a_qStrI, a_qIsi, a_qSum, a_qAll, a_qAny, a_qList, a_qTup, a_mJoin, tyD, clD, truD, okT, wd_lst, wd_fre, wd_tup, wd_str, a_pgName, pgTup, pgCons, pgNil, a_pgStar, kit_ss, kit_si, kit_sb, kit_st, kit_ii, kit_ib, kit_is, kit_it, kit_tt, kit_ts, kit_ti, kit_bi, kit_bb, kit_bs, kit_bt, Bool.not_true, Bool.not_false, if_false, reduceCtorEq, Nat.reduceLT, Int.reduceLE, Int.reduceLT, Int.reduceEq, decide_true, decide_false, wipeP, List.getElem?_cons_zero, List.getElem?_cons_succ, List.getElem?_nil, List.set_cons_zero, List.set_cons_succ, Option.map_some, if_true, Bool.false_eq_true, and_true, true_and, List.append_nil, a_qFn, at0, at1, at2, at3, a_pRet2, a_pRel, a_piRng3, a_pParO, eq_self, List.take_succ_cons, List.take_zero, List.drop_succ_cons, List.drop_zero, List.singleton_append, Nat.reduceLeDiff, Option.map_none, Option.toList_some, Option.toList_none, a_qMaxL, a_qRg1, a_piRg, a_pFld, a_qIsO, a_pProp])
section
variable {P : Program} {w : World} {K : PySem.W.Frag} {mg : Str → Option Value} {base : Heap} {Z : Zc}
theorem leanI_bd {z : Str} {s : Say} (h : SayOk z s) (c : Nat) : -1000 ≤ leanI s c ∧ leanI s c ≤ 1000 := by
  have ht : 1 ≤ s.t ∧ s.t ≤ 9 := by
    unfold Say.t
    rcases h.k with ⟨_, hn⟩ | ⟨_, t, hn, h2, h9⟩
    · rw [hn]
      exact ⟨by decide, by decide⟩
    · rw [hn]
      show 1 ≤ t ∧ t ≤ 9
      omega
  unfold leanI
  split <;> split <;> constructor <;> omega
end

local macro_rules | `(tactic| walk_at "pp") => `(tactic| simp only [rho, List.map_cons, List.map_nil, List.length_cons, List.length_nil, Nat.reduceAdd, Nat.reduceSub, List.replicate_zero, List.replicate_succ, List.cons_append, List.nil_append, a_pSeq, a_pRet, a_pRetN, a_pNext, a_pIfS, a_pSet, a_pOwn, a_pDrop, a_pPar, a_pPar3, a_pApp, a_pSetI, a_pAsg, a_pNever, a_pV, a_pC, a_pOp, a_pUn, a_pCB, a_pNil, a_pCons, a_pTest, a_pAnd, a_pOr, a_pNot, a_pAndV, a_pOrV, a_pNotV, a_pIf, a_pTup, a_pLst, a_pCall, a_pKw, a_pBMs, a_pChain, a_pOrT, a_pNotT, a_pThen, a_pSl, a_pNoPart, a_pPart, a_pLc, a_pFor, a_piList, a_piTup, a_piStr, a_piRng1, a_piRng2, a_piZip, a_piEnum, a_pYes, bD, iD, sD, lD, tD, oD, ownD, cl, cls, rv, asL, a_p0I, a_pCI, a_pEq, a_pAddS, a_pCat, a_pCatT, a_pIxL, a_pIxT, a_pIxS, a_pNeg, a_pSlL, a_pSlT, a_pSlS, a_qLen, a_qInt, a_qAbs, a_qMax, a_qMin, a_qStrI, a_qIsi, a_qSum, a_qAll, a_qAny, a_qList, a_qTup, a_mJoin, tyD, clD, truD, okT, wd_lst, wd_fre, wd_tup, wd_str, a_pgName, pgTup, pgCons, pgNil, a_pgStar, kit_ss, kit_si, kit_sb, kit_st, kit_ii, kit_ib, kit_is, kit_it, kit_tt, kit_ts, kit_ti, kit_bi, kit_bb, kit_bs, kit_bt, Bool.not_true, Bool.not_false, if_false, reduceCtorEq, Nat.reduceLT, Int.reduceLE, Int.reduceLT, Int.reduceEq, decide_true, decide_false, wipeP, List.getElem?_cons_zero, List.getElem?_cons_succ, List.getElem?_nil, List.set_cons_zero, List.set_cons_succ, Option.map_some, if_true, Bool.false_eq_true, and_true, true_and, List.append_nil, a_qFn, at0, at1, at2, at3, a_pRet2, a_pRel, a_piRng3, a_pParO, eq_self, List.take_succ_cons, List.take_zero, List.drop_succ_cons, List.drop_zero, List.singleton_append, Nat.reduceLeDiff, Option.map_none, Option.toList_some, Option.toList_none, a_qMaxL, a_qRg1, a_piRg, a_pFld, a_qIsO, a_pProp])
section
variable {P : Program} {w : World} {K : PySem.W.Frag} {mg : Str → Option Value} {base : Heap} {Z : Zc}
def foundF (z : Str) (s : Say) (xs : List Int) : Int := (((leansF z s).zip xs).map fun p => p.1 * p.2).sum
def holdsF (z : Str) (s : Say) (xs : List Int) : Bool := if s.w = "more" then decide (0 < foundF z s xs) else if s.w = "same" then decide (foundF z s xs = 0) else decide (0 ≤ foundF z s xs)
def sayP (s : Say) : PyData := .tuple ([.str s.w, .str s.a, .str s.b] ++ (s.n.map PyData.int).toList)
theorem pd_say (s : Say) : pd (sayD s) = some (sayP s) := by
  obtain ⟨w0, a, b, n⟩ := s
  cases n <;> rfl
theorem pds_says : ∀ ss : List Say, pds (ss.map sayD) = some (ss.map sayP)
  | [] => rfl
  | s :: ss => by
    rw [List.map_cons, List.map_cons]
    unfold pds
    rw [pd_say s, pds_says ss]
theorem ok_abc : PyData.strOk abc = true := by decide +kernel
theorem ok_sub {y z : Str} (h : Part z y) (hz : PyData.strOk z = true) : PyData.strOk y = true := by
  unfold PyData.strOk at hz ⊢
  rw [Array.all_eq_true'] at hz ⊢
  intro x hx
  exact hz x (Array.mem_toList_iff.mp (h.subset (Array.mem_toList_iff.mpr hx)))
theorem lay_say {z : Str} {s : Say} (hz : CaseOk z) (hs : SayOk z s) : (sayP s).canLay0 = true := by
  have oz := ok_sub hz.p ok_abc
  have oa := ok_sub hs.a oz
  have ob := ok_sub hs.b oz
  obtain ⟨w0, a, b, n⟩ := s
  have ow : PyData.strOk w0 = true := by
    rcases hs.k with ⟨h, _⟩ | ⟨h, _⟩
    · have h' : w0 = "more" ∨ w0 = "least" ∨ w0 = "same" := h
      rcases h' with rfl | rfl | rfl <;> decide +kernel
    · have h' : w0 = "times" := h
      rw [h']
      decide +kernel
  have oa' : PyData.strOk a = true := oa
  have ob' : PyData.strOk b = true := ob
  cases n with
  | none =>
    show (PyData.strOk w0 && (PyData.strOk a && (PyData.strOk b && true))) = true
    rw [ow, oa', ob']
    rfl
  | some t =>
    show (PyData.strOk w0 && (PyData.strOk a && (PyData.strOk b && (true && true)))) = true
    rw [ow, oa', ob']
    rfl
theorem lay_says {z : Str} (hz : CaseOk z) : ∀ {ss : List Say}, (∀ s ∈ ss, SayOk z s) → PyData.canLayAll0 (ss.map sayP) = true
  | [], _ => rfl
  | s :: ss, h => by
    show ((sayP s).canLay0 && PyData.canLayAll0 (ss.map sayP)) = true
    rw [lay_say hz (h s List.mem_cons_self), lay_says hz fun s hs => h s (List.mem_cons_of_mem _ hs)]
    rfl
theorem dep_say (s : Say) : (sayP s).depth ≤ 1 := by
  obtain ⟨w0, a, b, n⟩ := s
  cases n <;> exact Nat.le_refl _
theorem dep_says : ∀ ss : List Say, PyData.depthAll (ss.map sayP) ≤ 1
  | [] => Nat.zero_le _
  | s :: ss => by
    show max (sayP s).depth (PyData.depthAll (ss.map sayP)) ≤ 1
    exact Nat.max_le.mpr ⟨dep_say s, dep_says ss⟩
end

local macro_rules | `(tactic| walk_at "pp") => `(tactic| simp only [rho, List.map_cons, List.map_nil, List.length_cons, List.length_nil, Nat.reduceAdd, Nat.reduceSub, List.replicate_zero, List.replicate_succ, List.cons_append, List.nil_append, a_pSeq, a_pRet, a_pRetN, a_pNext, a_pIfS, a_pSet, a_pOwn, a_pDrop, a_pPar, a_pPar3, a_pApp, a_pSetI, a_pAsg, a_pNever, a_pV, a_pC, a_pOp, a_pUn, a_pCB, a_pNil, a_pCons, a_pTest, a_pAnd, a_pOr, a_pNot, a_pAndV, a_pOrV, a_pNotV, a_pIf, a_pTup, a_pLst, a_pCall, a_pKw, a_pBMs, a_pChain, a_pOrT, a_pNotT, a_pThen, a_pSl, a_pNoPart, a_pPart, a_pLc, a_pFor, a_piList, a_piTup, a_piStr, a_piRng1, a_piRng2, a_piZip, a_piEnum, a_pYes, bD, iD, sD, lD, tD, oD, ownD, cl, cls, rv, asL, a_p0I, a_pCI, a_pEq, a_pAddS, a_pCat, a_pCatT, a_pIxL, a_pIxT, a_pIxS, a_pNeg, a_pSlL, a_pSlT, a_pSlS, a_qLen, a_qInt, a_qAbs, a_qMax, a_qMin, a_qStrI, a_qIsi, a_qSum, a_qAll, a_qAny, a_qList, a_qTup, a_mJoin, tyD, clD, truD, okT, wd_lst, wd_fre, wd_tup, wd_str, a_pgName, pgTup, pgCons, pgNil, a_pgStar, kit_ss, kit_si, kit_sb, kit_st, kit_ii, kit_ib, kit_is, kit_it, kit_tt, kit_ts, kit_ti, kit_bi, kit_bb, kit_bs, kit_bt, Bool.not_true, Bool.not_false, if_false, reduceCtorEq, Nat.reduceLT, Int.reduceLE, Int.reduceLT, Int.reduceEq, decide_true, decide_false, wipeP, List.getElem?_cons_zero, List.getElem?_cons_succ, List.getElem?_nil, List.set_cons_zero, List.set_cons_succ, Option.map_some, if_true, Bool.false_eq_true, and_true, true_and, List.append_nil, a_qFn, at0, at1, at2, at3, a_pRet2, a_pRel, a_piRng3, a_pParO, eq_self, List.take_succ_cons, List.take_zero, List.drop_succ_cons, List.drop_zero, List.singleton_append, Nat.reduceLeDiff, Option.map_none, Option.toList_some, Option.toList_none, a_qMaxL, a_qRg1, a_piRg, a_pFld, a_qIsO, a_pProp, a_pRevT, a_pSlA, a_pMeth, a_pParSO, a_pAppPop, Int.natAbs_natCast])
section
variable {P : Program} {w : World} {K : PySem.W.Frag} {mg : Str → Option Value} {base : Heap} {Z : Pv.Zc}
local macro_rules | `(tactic| walk_at "pp") => `(tactic| simp only [rho, List.map_cons, List.map_nil, List.length_cons, List.length_nil, Nat.reduceAdd, Nat.reduceSub, List.replicate_zero, List.replicate_succ, List.cons_append, List.nil_append, a_pSeq, a_pRet, a_pRetN, a_pNext, a_pIfS, a_pSet, a_pOwn, a_pDrop, a_pPar, a_pPar3, a_pApp, a_pSetI, a_pAsg, a_pNever, a_pV, a_pC, a_pOp, a_pUn, a_pCB, a_pNil, a_pCons, a_pTest, a_pAnd, a_pOr, a_pNot, a_pAndV, a_pOrV, a_pNotV, a_pIf, a_pTup, a_pLst, a_pCall, a_pKw, a_pBMs, a_pChain, a_pOrT, a_pNotT, a_pThen, a_pSl, a_pNoPart, a_pPart, a_pLc, a_pFor, a_piList, a_piTup, a_piStr, a_piRng1, a_piRng2, a_piZip, a_piEnum, a_pYes, bD, iD, sD, lD, tD, oD, ownD, cl, cls, rv, asL, a_p0I, a_pCI, a_pEq, a_pAddS, a_pCat, a_pCatT, a_pIxL, a_pIxT, a_pIxS, a_pNeg, a_pSlL, a_pSlT, a_pSlS, a_qLen, a_qInt, a_qAbs, a_qMax, a_qMin, a_qStrI, a_qIsi, a_qSum, a_qAll, a_qAny, a_qList, a_qTup, a_mJoin, tyD, clD, truD, okT, wd_lst, wd_fre, wd_tup, wd_str, a_pgName, pgTup, pgCons, pgNil, a_pgStar, kit_ss, kit_si, kit_sb, kit_st, kit_ii, kit_ib, kit_is, kit_it, kit_tt, kit_ts, kit_ti, kit_bi, kit_bb, kit_bs, kit_bt, Bool.not_true, Bool.not_false, if_false, reduceCtorEq, Nat.reduceLT, Int.reduceLE, Int.reduceLT, Int.reduceEq, decide_true, decide_false, wipeP, List.getElem?_cons_zero, List.getElem?_cons_succ, List.getElem?_nil, List.set_cons_zero, List.set_cons_succ, Option.map_some, if_true, Bool.false_eq_true, and_true, true_and, List.append_nil, a_qFn, at0, at1, at2, at3, a_pRet2, a_pRel, a_piRng3, a_pParO, eq_self, List.take_succ_cons, List.take_zero, List.drop_succ_cons, List.drop_zero, List.singleton_append, Nat.reduceLeDiff, Option.map_none, Option.toList_some, Option.toList_none, a_qMaxL, a_qRg1, a_piRg, a_pFld, a_qIsO, a_pProp, a_pRevT, a_pSlA, a_pMeth, a_pParSO, a_pAppPop, Int.natAbs_natCast])
end

local macro_rules | `(tactic| walk_at "side") => `(tactic| first
  | trivial | decide | (show (0 : Int) < _; decide) | omega | (left; constructor <;> omega) | (right; constructor <;> omega) | (refine ⟨?_, ?_, ?_⟩ <;> decide) | (refine ⟨?_, ?_⟩ <;> first | decide | omega))
local macro_rules | `(tactic| walk_at "rd1") => `(tactic| first
  | with_reducible refine bCons ?_
  | with_reducible refine bNil ?_
  | ((with_reducible refine bV (v := ?vv) ?hv ?_); (case hv => exact rfl))
  | with_reducible refine bC ?_
  | with_reducible refine bOp ?_
  | with_reducible refine bI0 ?_
  | ((with_reducible refine bI ?hc ?_); (case hc => walk_at "side"))
  | with_reducible refine bCB ?_
  | with_reducible refine bInt ?_
  | with_reducible refine bIntB ?_
  | with_reducible refine bTest ?_
  | with_reducible refine bB ?_
  | with_reducible refine bBl ?_
  | with_reducible refine bNot ?_
  | with_reducible refine bOr ?_
  | with_reducible refine bAnd ?_
  | with_reducible refine bIf ?_
  | with_reducible refine bTup ?_
  | with_reducible refine bLst ?_
  | with_reducible refine bUn ?_
  | with_reducible refine bSeq ?_
  | with_reducible refine bAsg ?_
  | with_reducible refine bName ?_
  | with_reducible refine bRet ?_
  | with_reducible refine bDrop ?_
  | with_reducible refine bIfS ?_
  | with_reducible refine bNext ?_
  | with_reducible refine bPar ?_
  | with_reducible refine bPar2 ?_
  | with_reducible refine bSub ?_
  | with_reducible refine bCall ?_
  | with_reducible refine bBM ?_)
local macro_rules | `(tactic| walk_at "rd") => `(tactic| repeat (walk_at "rd1"))

structure TxtK (mg : Str → Option Value) : Prop where
  len : mg "len" = none
  int : mg "int" = none
  abs : mg "abs" = none
  divmod : mg "divmod" = none
abbrev sKiln : Stmt := top 20
abbrev sScoop : Stmt := top 21
def Kpt (H : Hp) (p : Addr) : Prop := ∃ mx dg : Int, H p = some (.lst [.int mx, .int dg]) ∧ 0 ≤ mx ∧ mx < 2147481173 ∧ 0 ≤ dg
def spKiln (K : PySem.W.Frag) : Sp := fun vs H Q _ => ∃ (a : Addr) (ns : List Int) (k : Int), vs = [.ref a, .int k] ∧ SqL K H a (ns.map V.int) ∧ 0 ≤ k ∧ k ≤ 6 ∧ ∀ H' p, Same H H' → H p = none → Kpt H' p → Q (.ref p) H'
def spScoop : Sp := fun vs H Q _ => ∃ (p : Addr) (t : Int), vs = [.ref p, .int t] ∧ Kpt H p ∧ 0 < t ∧ t ≤ 1000000000000000000 ∧ ∀ (r : Int) (H' : Hp), 0 ≤ r → r < t → Kpt H' p → Oth p H H' → Q (.int r) H'
section
variable {P : Program} {w : World} {K : PySem.W.Frag} {mg : Str → Option Value} {base : Heap}
theorem scScoop : FnScope ["kiln", "amount", "figure", "mixed"] ["kiln", "amount"] (defScope sScoop) := ⟨rfl, rfl, rfl, by decide +kernel, rfl, by decide +kernel, by decide +kernel⟩
theorem ok_scoop {f : Addr} {fd : FuncData} (F : Fun K "_law_scoop" "_law_scoop" sScoop f fd) (T : TxtK mg) : FnOk P w K mg base CX0 1 f fd ["kiln", "amount"] spScoop := by
  refine F.ok scScoop (fun vs H Q E h => ?_) (fun cdv A outer s H vs Q E hr h => ?_)
  · obtain ⟨p, t, rfl, _⟩ := h
    rfl
  · obtain ⟨p, t, rfl, ⟨mx, dg, hp, m0, m1, d0⟩, t0, t1, q⟩ := h
    refine ⟨_, (pss_cons (ps_if (pt_cmpR op_gt (pe_ix ix_list (pv 0) pe_int (fun _ _ => rfl)) pe_int (nomark _)) (pss_cons (ps_asg (pe_callB call_divmodW (by rfl) T.divmod (by decide +kernel) (pa_cons (pe_ix ix_list (pv 0) pe_int (fun _ _ => rfl)) (pa_cons (pv 1) pa_nil))) (pg_tup (n := 2) rfl (pgs_cons (pg_sub (pv 0) pe_int set_list) (pgs_cons (pg_name (i := 2) scScoop.nd rfl (Or.inl rfl)) pgs_nil)))) (pss_one (ps_ret (pv 2)))) pss_nil) (pss_cons (ps_set (i := 3) scScoop.nd rfl (Or.inl rfl) (pe_op op_mod (pe_callTy call_int1 (by rfl) T.int PyProof.Rows.boot_int (pa_cons (pe_op op_add (pe_op op_mul (pe_ix ix_list (pv 0) pe_int (fun _ _ => rfl)) pe_int) pe_int) pa_nil)) pe_int)) (pss_cons (ps_asg (pv 3) (pg_sub (pv 0) pe_int set_list)) (pss_one (ps_ret (pe_op op_mod (pe_callTy call_int1 (by rfl) T.int PyProof.Rows.boot_int (pa_cons (pe_op op_fdiv (pv 3) pe_int) pa_nil)) (pv 1))))))), ?_⟩
    walk_at "rd"
    refine bIxL hp rfl ?_
    walk_at "rd"
    refine bDec (fun hk => ?_) (fun hk => ?_)
    · walk_at "rd"
      refine bIxL hp rfl ?_
      walk_at "rd"
      have tl : t.natAbs.log2 < 9000 := Nat.lt_trans (log_lt (k := 64) (by omega) (by decide)) (by decide)
      refine ⟨dg, t, rfl, ⟨t0, PyProof.noPylong_of_log2 tl⟩, fun p2 hp2 => ?_⟩
      have hpp : p2 ≠ p := fun z => by
        rw [z, hp] at hp2
        cases hp2
      refine ⟨p2, _, rfl, .inl (.inl upd_same), rfl, _, _, rfl, ?_⟩
      show gSub _ _ _ _ _ _ _
      walk_at "rd"
      refine bSetL (by rw [upd_ne (fun z => hpp z.symm)]; exact hp) rfl ?_
      refine ⟨_, _, rfl, ?_⟩
      walk_at "rd"
      refine ⟨rfl, ?_⟩
      walk_at "rd"
      refine q _ _ (Int.emod_nonneg _ (by omega)) (Int.emod_lt_of_pos _ t0) ⟨_, _, upd_same, m0, m1, Int.ediv_nonneg d0 (by omega)⟩ fun b o hb e => ?_
      rw [upd_ne hb, upd_ne (fun z => by rw [z, hp2] at e; cases e)]
      exact e
    · walk_at "rd"
      refine bIxL hp rfl ?_
      walk_at "rd"
      refine bSetL hp rfl ?_
      walk_at "rd"
      refine q _ _ (Int.emod_nonneg _ (by omega)) (Int.emod_lt_of_pos _ t0) ⟨_, _, upd_same, Int.emod_nonneg _ (by decide), Int.emod_lt_of_pos _ (by decide), d0⟩ fun b o hb e => ?_
      rw [upd_ne hb]
      exact e
theorem scKiln : FnScope ["cells", "turn", "mixed", "cell", "own"] ["cells", "turn"] (defScope sKiln) := ⟨rfl, rfl, rfl, by decide +kernel, rfl, by decide +kernel, by decide +kernel⟩
theorem ok_kiln {f : Addr} {fd : FuncData} (F : Fun K "_law_kiln" "_law_kiln" sKiln f fd) (T : TxtK mg) : FnOk P w K mg base CX0 1 f fd ["cells", "turn"] (spKiln K) := by
  refine F.ok scKiln (fun vs H Q E h => ?_) (fun cdv A outer s H vs Q E hr h => ?_)
  · obtain ⟨a, ns, k, rfl, _⟩ := h
    rfl
  · obtain ⟨a, ns, k, rfl, hS, k0, k6, q⟩ := h
    refine ⟨_, (pss_cons (ps_set (i := 2) scKiln.nd rfl (Or.inl rfl) (pe_op op_add pe_int (pe_op op_mul pe_int (pv 1))))
      (pss_cons (ps_for PassesOwn.never rfl (pi_list (pe_slice sl_list (pv 0) po_none (po_some pe_int))) (pg_name (i := 3) scKiln.nd rfl (.inl rfl))
        (pss_one (ps_set (i := 2) scKiln.nd rfl (Or.inl rfl) (pe_op op_mod (pe_callTy call_int1 (by rfl) T.int PyProof.Rows.boot_int (pa_cons (pe_op op_add (pe_op op_add (pe_op op_mul (pv 2) pe_int) (pv 3)) pe_int) pa_nil)) pe_int))))
      (pss_cons (ps_set (i := 4) scKiln.nd rfl (Or.inl rfl) (pe_meet (pe_ifExp (pt_cmpR op_lt (pv 1) (pe_callB call_len (by rfl) T.len PySem.boot_len (pa_cons (pv 0) pa_nil)) (nomark _)) (pe_ix ix_list (pv 0) (pv 1) (fun _ _ => rfl)) pe_int)))
      (pss_one (ps_ret (pe_lst (pa_cons (pe_op op_mod (pe_callTy call_int1 (by rfl) T.int PyProof.Rows.boot_int (pa_cons (pe_op op_add (pe_op op_mul (pv 2) pe_int) (pv 4)) pa_nil)) pe_int) (pa_cons (pe_meet (pe_ifExp (pt_cmpR op_ge (pe_callB call_abs (by rfl) T.abs PyProof.Rows.boot_abs (pa_cons (pv 4) pa_nil)) (pe_op op_pow pe_int pe_int) (nomark _)) (pe_callB call_abs (by rfl) T.abs PyProof.Rows.boot_abs (pa_cons (pv 4) pa_nil)) pe_int)) pa_nil)))))))), ?_⟩
    walk_at "rd"
    refine ⟨_, rfl, 4, rfl, a, _, rfl, hS, fun p hp => ⟨p, rfl, ⟨_, SqL.of upd_same⟩, for_list (K := K) (a := p) (xs := cutV (ns.map V.int) none (some 4)) (fun i σ H' => ∃ (m : Int) (each : Option V),
      σ = [some (.ref a), some (.int k), some (.int m), each, none] ∧ H' = upd H p (.lst (cutV (ns.map V.int) none (some 4)))) ⟨_, none, rfl, rfl⟩ ?_ ?_ ?_⟩⟩
    · rintro i σ H' _ ⟨m, ea, _, rfl⟩
      exact SqL.of upd_same
    · rintro i x σ H' hx ⟨m, ea, rfl, rfl⟩
      obtain ⟨u, rfl⟩ : ∃ u, x = V.int u := by
        obtain ⟨u, _, e⟩ := List.mem_map.mp (cutV_mem hx)
        exact ⟨u, e.symm⟩
      walk_at "rd"
      exact ⟨_, _, rfl, rfl⟩
    · rintro σ H' ⟨m, ea, rfl, rfl⟩
      have hap : p ≠ a ∨ True := .inr trivial
      have hS' : SqL K (upd H p (.lst (cutV (ns.map V.int) none (some 4)))) a (ns.map V.int) := by
        rcases hS with h | h
        · have key : ∀ o, H a = some o → (upd H p (.lst (cutV (ns.map V.int) none (some 4)))) a = some o := fun o e => by
            rw [upd_ne (fun z => by rw [← z, e] at hp; cases hp)]
            exact e
          rcases h with h | ⟨o, h⟩
          · exact .inl (.inl (key _ h))
          · exact .inl (.inr ⟨o, key _ h⟩)
        · exact .inr h
      walk_at "rd"
      refine bMeetI (fun _ => True) ?_ (fun c _ => ?_)
      · walk_at "rd"
        refine ⟨_, _, rfl, .inl ⟨_, hS', rfl⟩, ?_⟩
        walk_at "rd"
        refine bDec (fun hk => ?_) (fun hk => ?_)
        · walk_at "rd"
          rw [List.length_map] at hk
          have hk2 : k.toNat < ns.length := by omega
          refine ⟨a, _, k, .int (ns[k.toNat]'hk2), rfl, rfl, hS', atI_of k0 (by simp [hk2]), ?_⟩
          exact ⟨rfl, _, rfl, trivial⟩
        · walk_at "rd"
          exact ⟨rfl, _, rfl, trivial⟩
      walk_at "rd"
      refine bMeetI (fun d => 0 ≤ d) ?_ (fun d d0 => ?_)
      · walk_at "rd"
        refine ⟨_, rfl, ?_⟩
        show tOp _ _ _ _ _ _
        walk_at "rd"
        refine bDec (fun hc => ?_) (fun hc => ?_)
        · walk_at "rd"
          refine ⟨_, rfl, rfl, _, rfl, ?_⟩
          split <;> omega
        · walk_at "rd"
          exact ⟨rfl, _, rfl, by omega⟩
      walk_at "rd"
      refine ⟨by show 2 ≤ sizeLine; decide, fun p2 hp2 => q _ _ ?_ ?_ ⟨_, _, upd_same, Int.emod_nonneg _ (by decide), Int.emod_lt_of_pos _ (by decide), d0⟩⟩
      · intro b o e
        rw [upd_ne (ne_of_none (by rw [upd_ne (ne_of_none e hp)]; exact e) hp2), upd_ne (ne_of_none e hp)]
        exact e
      · by_cases e : p2 = p
        · rw [e, upd_same] at hp2
          cases hp2
        · rw [upd_ne e] at hp2
          exact hp2
end
/-! the kiln as plain things see it -/
def Jk (is : List Int) : Prop := ∃ mx dg : Int, is = [mx, dg] ∧ 0 ≤ mx ∧ mx < 2147481173 ∧ 0 ≤ dg
def Zk (p : Addr) : Pv.Zc := ⟨some p, Jk⟩
def kiD (p : Addr) : Dt := .raw (.ref p)
section
variable {P : Program} {w : World} {K : PySem.W.Frag} {mg : Str → Option Value} {base : Heap} {p : Addr}
theorem kpt_of {H : Hp} (g : Pv.Pk (Zk p) H) : Kpt H p := by
  obtain ⟨is, h, mx, dg, rfl, h1, h2, h3⟩ := g p rfl
  exact ⟨mx, dg, h, h1, h2, h3⟩
theorem exk_of {H H' : Hp} (h : Kpt H' p) (o : Oth p H H') : Pv.Ex (Zk p) H H' := ⟨fun b u n e => o b u (fun z => n (by rw [z]; rfl)) e, fun q e => by
  cases e
  obtain ⟨mx, dg, h, h1, h2, h3⟩ := h
  exact ⟨[mx, dg], h, mx, dg, rfl, h1, h2, h3⟩⟩
theorem fn_weak {CX : CXT} {k : Nat} {f : Addr} {fd : FuncData} {ps : List Str} {sp sp' : Sp} (h : FnOk P w K mg base CX k f fd ps sp) (i : ∀ vs H Q E, sp' vs H Q E → sp vs H Q E) : FnOk P w K mg base CX k f fd ps sp' :=
  ⟨fun vs H Q E q => h.len vs H Q E (i _ _ _ _ q), fun A outer s H args us vs Q E r e b v q => h.run A outer s H args us vs Q E r e b v (i _ _ _ _ q)⟩
def S__law_scoop (p : Addr) : PSp := fun ds Q => ∃ t, ds = [kiD p, .int t] ∧ 0 < t ∧ t ≤ 1000000000000000000 ∧ ∀ r, 0 ≤ r → r < t → Q (.int r)
theorem scoop_of {t : Int} {Q : Dt → Prop} (h0 : 0 < t) (h1 : t ≤ 1000000000000000000) (q : ∀ r, 0 ≤ r → r < t → Q (.int r)) : S__law_scoop p [.raw (.ref p), .int t] Q := ⟨t, rfl, h0, h1, q⟩
theorem h__law_scoop {f : Addr} {fd : FuncData} (F : Fun K "_law_scoop" "_law_scoop" sScoop f fd) (m : mg "_law_scoop" = some (.ref f)) (T : TxtK mg) : Has P w K mg base (Zk p) "_law_scoop" 1 ["kiln", "amount"] (S__law_scoop p) :=
  ⟨f, fd, m, F.kp, F.binds (fun _ _ _ _ _ _ us hl => match us, hl with | [_, _], _ => rfl), fn_weak (ok_scoop F T) fun vs H Q E h => by
    obtain ⟨A, ds, Qd, g, r, ⟨t, rfl, t0, t1, q⟩, k⟩ := h
    obtain ⟨x, r', rfl, h1, h2⟩ := r.ci
    obtain ⟨y, r'', rfl, h3, h4⟩ := h2.ci
    cases h4.ni
    have e1 : x = .ref p := h1.wi
    have e2 := h3.ii
    subst e1 e2
    exact ⟨p, t, rfl, kpt_of g.pk, t0, t1, fun r H' r0 r1 hp ho => k (.int r) _ H' (exk_of hp ho) (.i r) (q r r0 r1)⟩⟩
end

local macro_rules | `(tactic| walk_at "pp") => `(tactic| simp only [rho, List.map_cons, List.map_nil, List.length_cons, List.length_nil, Nat.reduceAdd, Nat.reduceSub, List.replicate_zero, List.replicate_succ, List.cons_append, List.nil_append, a_pSeq, a_pRet, a_pRetN, a_pNext, a_pIfS, a_pSet, a_pOwn, a_pDrop, a_pPar, a_pPar3, a_pApp, a_pSetI, a_pAsg, a_pNever, a_pV, a_pC, a_pOp, a_pUn, a_pCB, a_pNil, a_pCons, a_pTest, a_pAnd, a_pOr, a_pNot, a_pAndV, a_pOrV, a_pNotV, a_pIf, a_pTup, a_pLst, a_pCall, a_pKw, a_pBMs, a_pChain, a_pOrT, a_pNotT, a_pThen, a_pSl, a_pNoPart, a_pPart, a_pLc, a_pFor, a_piList, a_piTup, a_piStr, a_piRng1, a_piRng2, a_piZip, a_piEnum, a_pYes, bD, iD, sD, lD, tD, oD, ownD, cl, cls, rv, asL, a_p0I, a_pCI, a_pEq, a_pAddS, a_pCat, a_pCatT, a_pIxL, a_pIxT, a_pIxS, a_pNeg, a_pSlL, a_pSlT, a_pSlS, a_qLen, a_qInt, a_qAbs, a_qMax, a_qMin, a_qStrI, a_qIsi, a_qSum, a_qAll, a_qAny, a_qList, a_qTup, a_mJoin, tyD, clD, truD, okT, wd_lst, wd_fre, wd_tup, wd_str, a_pgName, pgTup, pgCons, pgNil, a_pgStar, kit_ss, kit_si, kit_sb, kit_st, kit_ii, kit_ib, kit_is, kit_it, kit_tt, kit_ts, kit_ti, kit_bi, kit_bb, kit_bs, kit_bt, Bool.not_true, Bool.not_false, if_false, reduceCtorEq, Nat.reduceLT, Int.reduceLE, Int.reduceLT, Int.reduceEq, decide_true, decide_false, wipeP, List.getElem?_cons_zero, List.getElem?_cons_succ, List.getElem?_nil, List.set_cons_zero, List.set_cons_succ, Option.map_some, if_true, Bool.false_eq_true, and_true, true_and, List.append_nil, a_qFn, at0, at1, at2, at3, a_pRet2, a_pRel, a_piRng3, a_pParO, eq_self, List.take_succ_cons, List.take_zero, List.drop_succ_cons, List.drop_zero, List.singleton_append, Nat.reduceLeDiff, Option.map_none, Option.toList_some, Option.toList_none, a_qMaxL, a_qRg1, a_piRg, a_pFld, a_qIsO, a_pProp, a_pRevT, a_pSlA, a_pMeth, a_pParSO, a_pAppPop, Int.natAbs_natCast])
section
variable {P : Program} {w : World} {K : PySem.W.Frag} {mg : Str → Option Value} {base : Heap} {Z : Pv.Zc}
local macro_rules | `(tactic| walk_at "pp") => `(tactic| simp only [rho, List.map_cons, List.map_nil, List.length_cons, List.length_nil, Nat.reduceAdd, Nat.reduceSub, List.replicate_zero, List.replicate_succ, List.cons_append, List.nil_append, a_pSeq, a_pRet, a_pRetN, a_pNext, a_pIfS, a_pSet, a_pOwn, a_pDrop, a_pPar, a_pPar3, a_pApp, a_pSetI, a_pAsg, a_pNever, a_pV, a_pC, a_pOp, a_pUn, a_pCB, a_pNil, a_pCons, a_pTest, a_pAnd, a_pOr, a_pNot, a_pAndV, a_pOrV, a_pNotV, a_pIf, a_pTup, a_pLst, a_pCall, a_pKw, a_pBMs, a_pChain, a_pOrT, a_pNotT, a_pThen, a_pSl, a_pNoPart, a_pPart, a_pLc, a_pFor, a_piList, a_piTup, a_piStr, a_piRng1, a_piRng2, a_piZip, a_piEnum, a_pYes, bD, iD, sD, lD, tD, oD, ownD, cl, cls, rv, asL, a_p0I, a_pCI, a_pEq, a_pAddS, a_pCat, a_pCatT, a_pIxL, a_pIxT, a_pIxS, a_pNeg, a_pSlL, a_pSlT, a_pSlS, a_qLen, a_qInt, a_qAbs, a_qMax, a_qMin, a_qStrI, a_qIsi, a_qSum, a_qAll, a_qAny, a_qList, a_qTup, a_mJoin, tyD, clD, truD, okT, wd_lst, wd_fre, wd_tup, wd_str, a_pgName, pgTup, pgCons, pgNil, a_pgStar, kit_ss, kit_si, kit_sb, kit_st, kit_ii, kit_ib, kit_is, kit_it, kit_tt, kit_ts, kit_ti, kit_bi, kit_bb, kit_bs, kit_bt, Bool.not_true, Bool.not_false, if_false, reduceCtorEq, Nat.reduceLT, Int.reduceLE, Int.reduceLT, Int.reduceEq, decide_true, decide_false, wipeP, List.getElem?_cons_zero, List.getElem?_cons_succ, List.getElem?_nil, List.set_cons_zero, List.set_cons_succ, Option.map_some, if_true, Bool.false_eq_true, and_true, true_and, List.append_nil, a_qFn, at0, at1, at2, at3, a_pRet2, a_pRel, a_piRng3, a_pParO, eq_self, List.take_succ_cons, List.take_zero, List.drop_succ_cons, List.drop_zero, List.singleton_append, Nat.reduceLeDiff, Option.map_none, Option.toList_some, Option.toList_none, a_qMaxL, a_qRg1, a_piRg, a_pFld, a_qIsO, a_pProp, a_pRevT, a_pSlA, a_pMeth, a_pParSO, a_pAppPop, Int.natAbs_natCast])
end

local macro_rules | `(tactic| walk_at "pp") => `(tactic| simp only [rho, List.map_cons, List.map_nil, List.length_cons, List.length_nil, Nat.reduceAdd, Nat.reduceSub, List.replicate_zero, List.replicate_succ, List.cons_append, List.nil_append, a_pSeq, a_pRet, a_pRetN, a_pNext, a_pIfS, a_pSet, a_pOwn, a_pDrop, a_pPar, a_pPar3, a_pApp, a_pSetI, a_pAsg, a_pNever, a_pV, a_pC, a_pOp, a_pUn, a_pCB, a_pNil, a_pCons, a_pTest, a_pAnd, a_pOr, a_pNot, a_pAndV, a_pOrV, a_pNotV, a_pIf, a_pTup, a_pLst, a_pCall, a_pKw, a_pBMs, a_pChain, a_pOrT, a_pNotT, a_pThen, a_pSl, a_pNoPart, a_pPart, a_pLc, a_pFor, a_piList, a_piTup, a_piStr, a_piRng1, a_piRng2, a_piZip, a_piEnum, a_pYes, bD, iD, sD, lD, tD, oD, ownD, cl, cls, rv, asL, a_p0I, a_pCI, a_pEq, a_pAddS, a_pCat, a_pCatT, a_pIxL, a_pIxT, a_pIxS, a_pNeg, a_pSlL, a_pSlT, a_pSlS, a_qLen, a_qInt, a_qAbs, a_qMax, a_qMin, a_qStrI, a_qIsi, a_qSum, a_qAll, a_qAny, a_qList, a_qTup, a_mJoin, tyD, clD, truD, okT, wd_lst, wd_fre, wd_tup, wd_str, a_pgName, pgTup, pgCons, pgNil, a_pgStar, kit_ss, kit_si, kit_sb, kit_st, kit_ii, kit_ib, kit_is, kit_it, kit_tt, kit_ts, kit_ti, kit_bi, kit_bb, kit_bs, kit_bt, Bool.not_true, Bool.not_false, if_false, reduceCtorEq, Nat.reduceLT, Int.reduceLE, Int.reduceLT, Int.reduceEq, decide_true, decide_false, wipeP, List.getElem?_cons_zero, List.getElem?_cons_succ, List.getElem?_nil, List.set_cons_zero, List.set_cons_succ, Option.map_some, if_true, Bool.false_eq_true, and_true, true_and, List.append_nil, a_qFn, at0, at1, at2, at3, a_pRet2, a_pRel, a_piRng3, a_pParO, eq_self, List.take_succ_cons, List.take_zero, List.drop_succ_cons, List.drop_zero, List.singleton_append, Nat.reduceLeDiff, Option.map_none, Option.toList_some, Option.toList_none, a_qMaxL, a_qRg1, a_piRg, a_pFld, a_qIsO, a_pProp, a_pRevT, a_pSlA, a_pMeth, a_pParSO, a_pAppPop, Int.natAbs_natCast])
section
variable {P : Program} {w : World} {K : PySem.W.Frag} {mg : Str → Option Value} {base : Heap} {Z : Pv.Zc}
local macro_rules | `(tactic| walk_at "pp") => `(tactic| simp only [rho, List.map_cons, List.map_nil, List.length_cons, List.length_nil, Nat.reduceAdd, Nat.reduceSub, List.replicate_zero, List.replicate_succ, List.cons_append, List.nil_append, a_pSeq, a_pRet, a_pRetN, a_pNext, a_pIfS, a_pSet, a_pOwn, a_pDrop, a_pPar, a_pPar3, a_pApp, a_pSetI, a_pAsg, a_pNever, a_pV, a_pC, a_pOp, a_pUn, a_pCB, a_pNil, a_pCons, a_pTest, a_pAnd, a_pOr, a_pNot, a_pAndV, a_pOrV, a_pNotV, a_pIf, a_pTup, a_pLst, a_pCall, a_pKw, a_pBMs, a_pChain, a_pOrT, a_pNotT, a_pThen, a_pSl, a_pNoPart, a_pPart, a_pLc, a_pFor, a_piList, a_piTup, a_piStr, a_piRng1, a_piRng2, a_piZip, a_piEnum, a_pYes, bD, iD, sD, lD, tD, oD, ownD, cl, cls, rv, asL, a_p0I, a_pCI, a_pEq, a_pAddS, a_pCat, a_pCatT, a_pIxL, a_pIxT, a_pIxS, a_pNeg, a_pSlL, a_pSlT, a_pSlS, a_qLen, a_qInt, a_qAbs, a_qMax, a_qMin, a_qStrI, a_qIsi, a_qSum, a_qAll, a_qAny, a_qList, a_qTup, a_mJoin, tyD, clD, truD, okT, wd_lst, wd_fre, wd_tup, wd_str, a_pgName, pgTup, pgCons, pgNil, a_pgStar, kit_ss, kit_si, kit_sb, kit_st, kit_ii, kit_ib, kit_is, kit_it, kit_tt, kit_ts, kit_ti, kit_bi, kit_bb, kit_bs, kit_bt, Bool.not_true, Bool.not_false, if_false, reduceCtorEq, Nat.reduceLT, Int.reduceLE, Int.reduceLT, Int.reduceEq, decide_true, decide_false, wipeP, List.getElem?_cons_zero, List.getElem?_cons_succ, List.getElem?_nil, List.set_cons_zero, List.set_cons_succ, Option.map_some, if_true, Bool.false_eq_true, and_true, true_and, List.append_nil, a_qFn, at0, at1, at2, at3, a_pRet2, a_pRel, a_piRng3, a_pParO, eq_self, List.take_succ_cons, List.take_zero, List.drop_succ_cons, List.drop_zero, List.singleton_append, Nat.reduceLeDiff, Option.map_none, Option.toList_some, Option.toList_none, a_qMaxL, a_qRg1, a_piRg, a_pFld, a_qIsO, a_pProp, a_pRevT, a_pSlA, a_pMeth, a_pParSO, a_pAppPop, Int.natAbs_natCast])
theorem sum_cast : ∀ ns : List Nat, (ns.map fun n : Nat => (n : Int)).sum = (ns.sum : Nat)
  | [] => rfl
  | n :: ns => by
    rw [List.map_cons, List.sum_cons, sum_cast ns, List.sum_cons]
    omega
theorem allI_cast (ns : List Nat) : allI (ns.map fun n : Nat => Dt.int (n : Nat)) = some (ns.map fun n : Nat => (n : Int)) := allI_map _ ns
end

local macro_rules | `(tactic| walk_at "pp") => `(tactic| simp only [rho, List.map_cons, List.map_nil, List.length_cons, List.length_nil, Nat.reduceAdd, Nat.reduceSub, List.replicate_zero, List.replicate_succ, List.cons_append, List.nil_append, a_pSeq, a_pRet, a_pRetN, a_pNext, a_pIfS, a_pSet, a_pOwn, a_pDrop, a_pPar, a_pPar3, a_pApp, a_pSetI, a_pAsg, a_pNever, a_pV, a_pC, a_pOp, a_pUn, a_pCB, a_pNil, a_pCons, a_pTest, a_pAnd, a_pOr, a_pNot, a_pAndV, a_pOrV, a_pNotV, a_pIf, a_pTup, a_pLst, a_pCall, a_pKw, a_pBMs, a_pChain, a_pOrT, a_pNotT, a_pThen, a_pSl, a_pNoPart, a_pPart, a_pLc, a_pFor, a_piList, a_piTup, a_piStr, a_piRng1, a_piRng2, a_piZip, a_piEnum, a_pYes, bD, iD, sD, lD, tD, oD, ownD, cl, cls, rv, asL, a_p0I, a_pCI, a_pEq, a_pAddS, a_pCat, a_pCatT, a_pIxL, a_pIxT, a_pIxS, a_pNeg, a_pSlL, a_pSlT, a_pSlS, a_qLen, a_qInt, a_qAbs, a_qMax, a_qMin, a_qStrI, a_qIsi, a_qSum, a_qAll, a_qAny, a_qList, a_qTup, a_mJoin, tyD, clD, truD, okT, wd_lst, wd_fre, wd_tup, wd_str, a_pgName, pgTup, pgCons, pgNil, a_pgStar, kit_ss, kit_si, kit_sb, kit_st, kit_ii, kit_ib, kit_is, kit_it, kit_tt, kit_ts, kit_ti, kit_bi, kit_bb, kit_bs, kit_bt, Bool.not_true, Bool.not_false, if_false, reduceCtorEq, Nat.reduceLT, Int.reduceLE, Int.reduceLT, Int.reduceEq, decide_true, decide_false, wipeP, List.getElem?_cons_zero, List.getElem?_cons_succ, List.getElem?_nil, List.set_cons_zero, List.set_cons_succ, Option.map_some, if_true, Bool.false_eq_true, and_true, true_and, List.append_nil, a_qFn, at0, at1, at2, at3, a_pRet2, a_pRel, a_piRng3, a_pParO, eq_self, List.take_succ_cons, List.take_zero, List.drop_succ_cons, List.drop_zero, List.singleton_append, Nat.reduceLeDiff, Option.map_none, Option.toList_some, Option.toList_none, a_qMaxL, a_qRg1, a_piRg, a_pFld, a_qIsO, a_pProp, a_pRevT, a_pSlA, a_pMeth, a_pParSO, a_pAppPop, Int.natAbs_natCast])
section
variable {P : Program} {w : World} {K : PySem.W.Frag} {mg : Str → Option Value} {base : Heap} {Z : Pv.Zc}
local macro_rules | `(tactic| walk_at "pp") => `(tactic| simp only [rho, List.map_cons, List.map_nil, List.length_cons, List.length_nil, Nat.reduceAdd, Nat.reduceSub, List.replicate_zero, List.replicate_succ, List.cons_append, List.nil_append, a_pSeq, a_pRet, a_pRetN, a_pNext, a_pIfS, a_pSet, a_pOwn, a_pDrop, a_pPar, a_pPar3, a_pApp, a_pSetI, a_pAsg, a_pNever, a_pV, a_pC, a_pOp, a_pUn, a_pCB, a_pNil, a_pCons, a_pTest, a_pAnd, a_pOr, a_pNot, a_pAndV, a_pOrV, a_pNotV, a_pIf, a_pTup, a_pLst, a_pCall, a_pKw, a_pBMs, a_pChain, a_pOrT, a_pNotT, a_pThen, a_pSl, a_pNoPart, a_pPart, a_pLc, a_pFor, a_piList, a_piTup, a_piStr, a_piRng1, a_piRng2, a_piZip, a_piEnum, a_pYes, bD, iD, sD, lD, tD, oD, ownD, cl, cls, rv, asL, a_p0I, a_pCI, a_pEq, a_pAddS, a_pCat, a_pCatT, a_pIxL, a_pIxT, a_pIxS, a_pNeg, a_pSlL, a_pSlT, a_pSlS, a_qLen, a_qInt, a_qAbs, a_qMax, a_qMin, a_qStrI, a_qIsi, a_qSum, a_qAll, a_qAny, a_qList, a_qTup, a_mJoin, tyD, clD, truD, okT, wd_lst, wd_fre, wd_tup, wd_str, a_pgName, pgTup, pgCons, pgNil, a_pgStar, kit_ss, kit_si, kit_sb, kit_st, kit_ii, kit_ib, kit_is, kit_it, kit_tt, kit_ts, kit_ti, kit_bi, kit_bb, kit_bs, kit_bt, Bool.not_true, Bool.not_false, if_false, reduceCtorEq, Nat.reduceLT, Int.reduceLE, Int.reduceLT, Int.reduceEq, decide_true, decide_false, wipeP, List.getElem?_cons_zero, List.getElem?_cons_succ, List.getElem?_nil, List.set_cons_zero, List.set_cons_succ, Option.map_some, if_true, Bool.false_eq_true, and_true, true_and, List.append_nil, a_qFn, at0, at1, at2, at3, a_pRet2, a_pRel, a_piRng3, a_pParO, eq_self, List.take_succ_cons, List.take_zero, List.drop_succ_cons, List.drop_zero, List.singleton_append, Nat.reduceLeDiff, Option.map_none, Option.toList_some, Option.toList_none, a_qMaxL, a_qRg1, a_piRg, a_pFld, a_qIsO, a_pProp, a_pRevT, a_pSlA, a_pMeth, a_pParSO, a_pAppPop, Int.natAbs_natCast])
variable {C : Addr}
def lotN (z y : Str) (ns : List Nat) : Nat := (((z.cps.toList.zip ns).filter fun p => decide (p.1 ∈ y.cps.toList)).map fun p => p.2).sum
end

local macro_rules | `(tactic| walk_at "pp") => `(tactic| simp only [rho, List.map_cons, List.map_nil, List.length_cons, List.length_nil, Nat.reduceAdd, Nat.reduceSub, List.replicate_zero, List.replicate_succ, List.cons_append, List.nil_append, a_pSeq, a_pRet, a_pRetN, a_pNext, a_pIfS, a_pSet, a_pOwn, a_pDrop, a_pPar, a_pPar3, a_pApp, a_pSetI, a_pAsg, a_pNever, a_pV, a_pC, a_pOp, a_pUn, a_pCB, a_pNil, a_pCons, a_pTest, a_pAnd, a_pOr, a_pNot, a_pAndV, a_pOrV, a_pNotV, a_pIf, a_pTup, a_pLst, a_pCall, a_pKw, a_pBMs, a_pChain, a_pOrT, a_pNotT, a_pThen, a_pSl, a_pNoPart, a_pPart, a_pLc, a_pFor, a_piList, a_piTup, a_piStr, a_piRng1, a_piRng2, a_piZip, a_piEnum, a_pYes, bD, iD, sD, lD, tD, oD, ownD, cl, cls, rv, asL, a_p0I, a_pCI, a_pEq, a_pAddS, a_pCat, a_pCatT, a_pIxL, a_pIxT, a_pIxS, a_pNeg, a_pSlL, a_pSlT, a_pSlS, a_qLen, a_qInt, a_qAbs, a_qMax, a_qMin, a_qStrI, a_qIsi, a_qSum, a_qAll, a_qAny, a_qList, a_qTup, a_mJoin, tyD, clD, truD, okT, wd_lst, wd_fre, wd_tup, wd_str, a_pgName, pgTup, pgCons, pgNil, a_pgStar, kit_ss, kit_si, kit_sb, kit_st, kit_ii, kit_ib, kit_is, kit_it, kit_tt, kit_ts, kit_ti, kit_bi, kit_bb, kit_bs, kit_bt, Bool.not_true, Bool.not_false, if_false, reduceCtorEq, Nat.reduceLT, Int.reduceLE, Int.reduceLT, Int.reduceEq, decide_true, decide_false, wipeP, List.getElem?_cons_zero, List.getElem?_cons_succ, List.getElem?_nil, List.set_cons_zero, List.set_cons_succ, Option.map_some, if_true, Bool.false_eq_true, and_true, true_and, List.append_nil, a_qFn, at0, at1, at2, at3, a_pRet2, a_pRel, a_piRng3, a_pParO, eq_self, List.take_succ_cons, List.take_zero, List.drop_succ_cons, List.drop_zero, List.singleton_append, Nat.reduceLeDiff, Option.map_none, Option.toList_some, Option.toList_none, a_qMaxL, a_qRg1, a_piRg, a_pFld, a_qIsO, a_pProp, a_pRevT, a_pSlA, a_pMeth, a_pParSO, a_pAppPop, a_qListS, a_qSortS, Int.natAbs_natCast])
section
variable {P : Program} {w : World} {K : PySem.W.Frag} {mg : Str → Option Value} {base : Heap} {Z : Pv.Zc}
local macro_rules | `(tactic| walk_at "pp") => `(tactic| simp only [rho, List.map_cons, List.map_nil, List.length_cons, List.length_nil, Nat.reduceAdd, Nat.reduceSub, List.replicate_zero, List.replicate_succ, List.cons_append, List.nil_append, a_pSeq, a_pRet, a_pRetN, a_pNext, a_pIfS, a_pSet, a_pOwn, a_pDrop, a_pPar, a_pPar3, a_pApp, a_pSetI, a_pAsg, a_pNever, a_pV, a_pC, a_pOp, a_pUn, a_pCB, a_pNil, a_pCons, a_pTest, a_pAnd, a_pOr, a_pNot, a_pAndV, a_pOrV, a_pNotV, a_pIf, a_pTup, a_pLst, a_pCall, a_pKw, a_pBMs, a_pChain, a_pOrT, a_pNotT, a_pThen, a_pSl, a_pNoPart, a_pPart, a_pLc, a_pFor, a_piList, a_piTup, a_piStr, a_piRng1, a_piRng2, a_piZip, a_piEnum, a_pYes, bD, iD, sD, lD, tD, oD, ownD, cl, cls, rv, asL, a_p0I, a_pCI, a_pEq, a_pAddS, a_pCat, a_pCatT, a_pIxL, a_pIxT, a_pIxS, a_pNeg, a_pSlL, a_pSlT, a_pSlS, a_qLen, a_qInt, a_qAbs, a_qMax, a_qMin, a_qStrI, a_qIsi, a_qSum, a_qAll, a_qAny, a_qList, a_qTup, a_mJoin, tyD, clD, truD, okT, wd_lst, wd_fre, wd_tup, wd_str, a_pgName, pgTup, pgCons, pgNil, a_pgStar, kit_ss, kit_si, kit_sb, kit_st, kit_ii, kit_ib, kit_is, kit_it, kit_tt, kit_ts, kit_ti, kit_bi, kit_bb, kit_bs, kit_bt, Bool.not_true, Bool.not_false, if_false, reduceCtorEq, Nat.reduceLT, Int.reduceLE, Int.reduceLT, Int.reduceEq, decide_true, decide_false, wipeP, List.getElem?_cons_zero, List.getElem?_cons_succ, List.getElem?_nil, List.set_cons_zero, List.set_cons_succ, Option.map_some, if_true, Bool.false_eq_true, and_true, true_and, List.append_nil, a_qFn, at0, at1, at2, at3, a_pRet2, a_pRel, a_piRng3, a_pParO, eq_self, List.take_succ_cons, List.take_zero, List.drop_succ_cons, List.drop_zero, List.singleton_append, Nat.reduceLeDiff, Option.map_none, Option.toList_some, Option.toList_none, a_qMaxL, a_qRg1, a_piRg, a_pFld, a_qIsO, a_pProp, a_pRevT, a_pSlA, a_pMeth, a_pParSO, a_pAppPop, a_qListS, Int.natAbs_natCast])
theorem a_qSortS (ρ : List Sl) (xs : List Dt) (Q : Dt → Prop) : qSortS ρ xs Q = (match xs with
  | [d] => oD (asL ρ d) fun ds => oD (allS ds) fun ns => ns.length < 64 ∧ ∀ ys : List Str, ys.Perm ns → sortedS ys = true → Q (.fre (ys.map .str))
  | _ => False) := rfl
local macro_rules | `(tactic| walk_at "pp") => `(tactic| simp only [rho, List.map_cons, List.map_nil, List.length_cons, List.length_nil, Nat.reduceAdd, Nat.reduceSub, List.replicate_zero, List.replicate_succ, List.cons_append, List.nil_append, a_pSeq, a_pRet, a_pRetN, a_pNext, a_pIfS, a_pSet, a_pOwn, a_pDrop, a_pPar, a_pPar3, a_pApp, a_pSetI, a_pAsg, a_pNever, a_pV, a_pC, a_pOp, a_pUn, a_pCB, a_pNil, a_pCons, a_pTest, a_pAnd, a_pOr, a_pNot, a_pAndV, a_pOrV, a_pNotV, a_pIf, a_pTup, a_pLst, a_pCall, a_pKw, a_pBMs, a_pChain, a_pOrT, a_pNotT, a_pThen, a_pSl, a_pNoPart, a_pPart, a_pLc, a_pFor, a_piList, a_piTup, a_piStr, a_piRng1, a_piRng2, a_piZip, a_piEnum, a_pYes, bD, iD, sD, lD, tD, oD, ownD, cl, cls, rv, asL, a_p0I, a_pCI, a_pEq, a_pAddS, a_pCat, a_pCatT, a_pIxL, a_pIxT, a_pIxS, a_pNeg, a_pSlL, a_pSlT, a_pSlS, a_qLen, a_qInt, a_qAbs, a_qMax, a_qMin, a_qStrI, a_qIsi, a_qSum, a_qAll, a_qAny, a_qList, a_qTup, a_mJoin, tyD, clD, truD, okT, wd_lst, wd_fre, wd_tup, wd_str, a_pgName, pgTup, pgCons, pgNil, a_pgStar, kit_ss, kit_si, kit_sb, kit_st, kit_ii, kit_ib, kit_is, kit_it, kit_tt, kit_ts, kit_ti, kit_bi, kit_bb, kit_bs, kit_bt, Bool.not_true, Bool.not_false, if_false, reduceCtorEq, Nat.reduceLT, Int.reduceLE, Int.reduceLT, Int.reduceEq, decide_true, decide_false, wipeP, List.getElem?_cons_zero, List.getElem?_cons_succ, List.getElem?_nil, List.set_cons_zero, List.set_cons_succ, Option.map_some, if_true, Bool.false_eq_true, and_true, true_and, List.append_nil, a_qFn, at0, at1, at2, at3, a_pRet2, a_pRel, a_piRng3, a_pParO, eq_self, List.take_succ_cons, List.take_zero, List.drop_succ_cons, List.drop_zero, List.singleton_append, Nat.reduceLeDiff, Option.map_none, Option.toList_some, Option.toList_none, a_qMaxL, a_qRg1, a_piRg, a_pFld, a_qIsO, a_pProp, a_pRevT, a_pSlA, a_pMeth, a_pParSO, a_pAppPop, a_qListS, a_qSortS, Int.natAbs_natCast])
variable {p : Addr}
theorem sub_sorted : ∀ (as cs : List Nat), as.Pairwise (· < ·) → cs.Pairwise (· < ·) → (∀ c ∈ cs, c ∈ as) → cs.Sublist as
  | [], [], _, _, _ => .slnil
  | [], c :: cs, _, _, h => by cases h c List.mem_cons_self
  | a :: as, [], _, _, _ => List.nil_sublist _
  | a :: as, c :: cs, ha, hc, h => by
    have hc' := List.pairwise_cons.mp hc
    have ha' := List.pairwise_cons.mp ha
    by_cases e : c = a
    · subst e
      refine .cons₂ _ (sub_sorted as cs ha'.2 hc'.2 fun x hx => ?_)
      rcases List.mem_cons.mp (h x (List.mem_cons_of_mem _ hx)) with z | z
      · have := hc'.1 x hx
        omega
      · exact z
    · have hca : c ∈ as := by
        rcases List.mem_cons.mp (h c List.mem_cons_self) with z | z
        · exact absurd z e
        · exact z
      have lt := ha'.1 c hca
      refine .cons _ (sub_sorted as (c :: cs) ha'.2 hc fun x hx => ?_)
      rcases List.mem_cons.mp (h x hx) with z | z
      · rcases List.mem_cons.mp hx with y | y
        · omega
        · have := hc'.1 x y
          omega
      · exact z
theorem rising_le : ∀ (c : Nat) (cs : List Nat), risingS ⟨#[c]⟩ (cs.map fun c => (⟨#[c]⟩ : Str)) = true → (c :: cs).Pairwise (· ≤ ·)
  | c, [], _ => List.pairwise_singleton _ _
  | c, d :: cs, h => by
    have h' : (!ltCps [d] [c] && risingS ⟨#[d]⟩ (cs.map fun c => (⟨#[c]⟩ : Str))) = true := h
    rw [Bool.and_eq_true] at h'
    have ih := rising_le d cs h'.2
    have hd : c ≤ d := by
      have e : ltCps [d] [c] = decide (d < c) := by
        simp [ltCps]
      have := h'.1
      rw [e] at this
      simpa using this
    refine List.pairwise_cons.mpr ⟨fun x hx => ?_, ih⟩
    rcases List.mem_cons.mp hx with z | z
    · omega
    · have := (List.pairwise_cons.mp ih).1 x z
      omega
theorem sorted_le {cs : List Nat} (h : sortedS (cs.map fun c => (⟨#[c]⟩ : Str)) = true) : cs.Pairwise (· ≤ ·) := by
  cases cs with
  | nil => exact .nil
  | cons c cs => exact rising_le c cs h
theorem erase_map {α β : Type} (f : α → β) : ∀ (cs : List α) (j : Nat), (cs.map f).eraseIdx j = (cs.eraseIdx j).map f
  | [], j => by simp
  | c :: cs, 0 => rfl
  | c :: cs, j + 1 => by
    rw [List.map_cons, List.eraseIdx_cons_succ, List.eraseIdx_cons_succ, List.map_cons, erase_map f cs j]
theorem erase_perm {α : Type} : ∀ (cs : List α) (j : Nat) (h : j < cs.length), (cs[j] :: cs.eraseIdx j).Perm cs
  | c :: cs, 0, _ => List.Perm.refl _
  | c :: cs, j + 1, h => by
    rw [List.eraseIdx_cons_succ, List.getElem_cons_succ]
    exact (List.Perm.swap _ _ _).trans (List.Perm.cons _ (erase_perm cs j (by simpa using h)))
theorem abc_up : abc.cps.toList.Pairwise (· < ·) := by decide +kernel
theorem ones_of {fs : List Nat} {ys : List Str} (h : ys.Perm (fs.map fun c => (⟨#[c]⟩ : Str))) : ∃ cs : List Nat, ys = cs.map (fun c => (⟨#[c]⟩ : Str)) ∧ cs.Perm fs := by
  have inv : ∀ cs : List Nat, ((cs.map fun c => (⟨#[c]⟩ : Str)).map fun y => y.cps.toList.headD 0) = cs := fun cs => by
    induction cs with
    | nil => rfl
    | cons c cs ih =>
      rw [List.map_cons, List.map_cons]
      exact congrArg (c :: ·) ih
  refine ⟨ys.map fun y => y.cps.toList.headD 0, ?_, ?_⟩
  · rw [List.map_map]
    have : ∀ y ∈ ys, ((fun c => (⟨#[c]⟩ : Str)) ∘ fun y : Str => y.cps.toList.headD 0) y = y := fun y hy => by
      obtain ⟨c, _, rfl⟩ := List.mem_map.mp (h.mem_iff.mp hy)
      rfl
    rw [List.map_congr_left this]
    simp
  · have := h.map fun y : Str => y.cps.toList.headD 0
    rw [inv] at this
    exact this
theorem letters_ok {fs cs : List Nat} {ys : List Str} (hp : (fs ++ cs).Perm abc.cps.toList) (h : ys.Perm (fs.map fun c => (⟨#[c]⟩ : Str))) (hs : sortedS ys = true) (h2 : 2 ≤ fs.length) (h6 : fs.length ≤ 6) :
    CaseOk (Txt.join "" ys) ∧ (Txt.join "" ys).cps.toList.length = fs.length := by
  obtain ⟨us, rfl, pu⟩ := ones_of h
  rw [Pv.join_one]
  have nd : us.Nodup := by
    have := hp.nodup_iff.mpr abc_nd
    exact pu.nodup_iff.mpr (List.nodup_append.mp this).1
  have le := sorted_le hs
  have lt : us.Pairwise (· < ·) := by
    have := List.Pairwise.and le nd
    exact this.imp fun ⟨h1, h2⟩ => Nat.lt_of_le_of_ne h1 h2
  have len : us.length = fs.length := pu.length_eq
  refine ⟨⟨?_, ?_, ?_⟩, len⟩
  · exact sub_sorted _ _ abc_up lt fun c hc => hp.mem_iff.mp (List.mem_append_left _ (pu.mem_iff.mp hc))
  · show 2 ≤ us.length
    omega
  · show us.length ≤ 6
    omega
abbrev s__law_letters : Stmt := top 22
theorem sc__law_letters : FnScope ["kiln", "size", "left", "found", "turn"] ["kiln", "size"] (defScope s__law_letters) := ⟨rfl, rfl, rfl, by decide +kernel, rfl, by decide +kernel, by decide +kernel⟩
def S__law_letters (p : Addr) : PSp := fun ds Q => ∃ n : Nat, ds = [kiD p, .int (n : Nat)] ∧ 2 ≤ n ∧ n ≤ 6 ∧ ∀ z, CaseOk z → z.cps.toList.length = n → Q (.str z)
theorem h__law_letters {f : Addr} {fd : FuncData} (F : Fun K "_law_letters" "_law_letters" s__law_letters f fd) (m : mg "_law_letters" = some (.ref f)) (B : Bn mg) (H__law_scoop : Has P w K mg base (Zk p) "_law_scoop" 1 ["kiln", "amount"] (S__law_scoop p)) (B_sorted : mg "sorted" = none) : Has P w K mg base (Zk p) "_law_letters" 2 ["kiln", "size"] (S__law_letters p) := by
  obtain ⟨f__law_scoop, d__law_scoop, m__law_scoop, k__law_scoop, b__law_scoop, G__law_scoop⟩ := H__law_scoop.ex
  refine Has.of F m sc__law_letters (F.binds (fun _ _ _ _ _ _ us hl => match us, hl with | [_, _], _ => rfl)) (fun ds Q h => by obtain ⟨_, rfl, _⟩ := h; rfl) fun cdv A outer s H E hr => ?_
  refine ⟨_, _, (pss_cons (ps_par (i := 2) (j := 3) rfl sc__law_letters.nd rfl rfl (by decide) rfl rfl (pa_cons (pe_callTy (r := rListS) (by exact cr_listS rfl) (by rfl) B.list (by decide +kernel) (pa_cons pe_str pa_nil)) (pa_cons (pe_lst pa_nil) pa_nil)) (by rfl)) (pss_cons (ps_for PassesOwn.never rfl (pi_range1 rfl B.range (pa_cons (pv 1) pa_nil)) (pg_name (i := 4) sc__law_letters.nd rfl (by first | exact Or.inl rfl | exact Or.inr rfl)) (pss_one (ps_expr (pe_bm (r := rAppend) PySem.F.plainAttrs_list PySem.F.slot_list_append PySem.F.type_list_append mt_append (pv 3) (pa_cons (pe_bm (r := rPopAt) PySem.F.plainAttrs_list PySem.F.slot_list_pop PySem.F.type_list_pop mt_popAt (pv 2) (pa_cons (pe_call G__law_scoop (hr.mono (by decide)) rfl m__law_scoop k__law_scoop b__law_scoop .nil pass0 (pa_cons (pv 0) (pa_cons (pe_callB (r := zLen K) (by exact c_len) (by rfl) B.len PySem.boot_len (pa_cons (pv 2) pa_nil)) pa_nil))) pa_nil)) pa_nil))))) (pss_one (ps_ret (pe_bm (r := zJoin K) PySem.F.plainAttrs_str PySem.F.slot_str_join PySem.F.type_str_join (by exact c_join) pe_str (pa_cons (pe_callB (r := rSortedS K) (by exact cr_sortedS) (by rfl) B_sorted (by decide +kernel) (pa_cons (pv 3) pa_nil)) pa_nil)))))), (s_seq (s_parO (s_cb q_listS (s_cons s_str s_nil))) (s_seq (s_for (s_iRng1 (s_cons s_var s_nil)) s_gName (s_appPop (s_call (s_cons s_var (s_cons (s_cb k_len (s_cons s_var s_nil)) s_nil))))) (s_ret (s_bms k_join s_str (s_cons (s_cb q_sortS (s_cons s_var s_nil)) s_nil))))), fun ds Q h => ?_⟩
  obtain ⟨n, rfl, h2, h6, q⟩ := h
  show (pSeq _ _) _ [Sl.sh (.raw (.ref p)), Sl.sh (.int (n : Nat)), .un, .un, .un]
  refine seq_step fun N hN => ?_
  walk_at "pp"
  refine ⟨by decide, ?_⟩
  subst hN
  refine seq_step fun N hN => ?_
  walk_at "pp"
  refine ⟨by omega, by omega, ?_⟩
  unfold rng
  refine for_inv (fun i : Nat => Dt.int (0 + (i : Int))) (fun rest ρ => ∃ (cs fs : List Nat) (a : Sl), ρ = [Sl.sh (Dt.raw (V.ref p)), Sl.sh (Dt.int (n : Nat)), Sl.own (cs.map sgn), Sl.own (fs.map sgn), a] ∧ (fs ++ cs).Perm abc.cps.toList ∧ fs.length + rest.length = n) (fun i rest ρ hi nx k => ?_) (fun ρ hi => ?_) _ _ ⟨_, [], _, rfl, List.Perm.refl _, by rw [List.length_range]; simp⟩
  · obtain ⟨cs, fs, a, rfl, hp, hl⟩ := hi
    rw [List.length_cons] at hl
    have h26 := hp.length_eq
    rw [List.length_append] at h26
    have e26 : abc.cps.toList.length = 26 := by decide +kernel
    refine tgt_step fun M hM => ?_
    walk_at "pp"
    subst hM
    walk_at "pp"
    rw [List.length_map, List.length_map]
    refine ⟨by decide, ?_⟩
    refine scoop_of (t := (cs.length : Int)) (by omega) (by omega) fun r r0 r1 => ?_
    walk_at "pp"
    obtain ⟨j, rfl⟩ : ∃ j : Nat, r = j := ⟨r.toNat, by omega⟩
    have hj : j < cs.length := by omega
    refine ⟨by omega, by omega, by rw [sizeLine_eq]; omega, ?_⟩
    unfold popF
    have e1 : ixN (cs.map sgn).length (j : Int) = some j := by
      unfold ixN
      rw [List.length_map, if_pos (by omega), if_pos (by omega)]
      simp
    rw [e1]
    walk_at "pp"
    rw [List.getElem?_map, List.getElem?_eq_getElem hj]
    walk_at "pp"
    refine k _ ⟨cs.eraseIdx j, fs ++ [cs[j]], Sl.sh (Dt.int (0 + (i : Int))), ?_, ?_, ?_⟩
    · rw [List.map_append, ← erase_map]
      rfl
    · refine List.Perm.trans ?_ hp
      rw [List.append_assoc]
      exact List.Perm.append_left _ (erase_perm cs j hj)
    · rw [List.length_append, List.length_singleton]
      omega
  · obtain ⟨cs, fs, a, rfl, hp, hl⟩ := hi
    have hl' : fs.length = n := hl
    show N _
    subst hN
    walk_at "pp"
    rw [allS_sgn]
    walk_at "pp"
    refine ⟨by rw [List.length_map]; omega, fun ys hp2 hs => ?_⟩
    obtain ⟨ok, hz⟩ := letters_ok hp hp2 hs (by omega) (by omega)
    rw [allS_strs]
    refine ⟨?_, q _ ok (hz.trans hl')⟩
    obtain ⟨us, rfl, pu⟩ := ones_of hp2
    have := pu.length_eq
    rw [Pv.sum_one, List.length_map]
    show _ + _ * 0 ≤ _
    omega
end

local macro_rules | `(tactic| walk_at "pp") => `(tactic| simp only [rho, List.map_cons, List.map_nil, List.length_cons, List.length_nil, Nat.reduceAdd, Nat.reduceSub, List.replicate_zero, List.replicate_succ, List.cons_append, List.nil_append, a_pSeq, a_pRet, a_pRetN, a_pNext, a_pIfS, a_pSet, a_pOwn, a_pDrop, a_pPar, a_pPar3, a_pApp, a_pSetI, a_pAsg, a_pNever, a_pV, a_pC, a_pOp, a_pUn, a_pCB, a_pNil, a_pCons, a_pTest, a_pAnd, a_pOr, a_pNot, a_pAndV, a_pOrV, a_pNotV, a_pIf, a_pTup, a_pLst, a_pCall, a_pKw, a_pBMs, a_pChain, a_pOrT, a_pNotT, a_pThen, a_pSl, a_pNoPart, a_pPart, a_pLc, a_pFor, a_piList, a_piTup, a_piStr, a_piRng1, a_piRng2, a_piZip, a_piEnum, a_pYes, bD, iD, sD, lD, tD, oD, ownD, cl, cls, rv, asL, a_p0I, a_pCI, a_pEq, a_pAddS, a_pCat, a_pCatT, a_pIxL, a_pIxT, a_pIxS, a_pNeg, a_pSlL, a_pSlT, a_pSlS, a_qLen, a_qInt, a_qAbs, a_qMax, a_qMin, a_qStrI, a_qIsi, a_qSum, a_qAll, a_qAny, a_qList, a_qTup, a_mJoin, tyD, clD, truD, okT, wd_lst, wd_fre, wd_tup, wd_str, a_pgName, pgTup, pgCons, pgNil, a_pgStar, kit_ss, kit_si, kit_sb, kit_st, kit_ii, kit_ib, kit_is, kit_it, kit_tt, kit_ts, kit_ti, kit_bi, kit_bb, kit_bs, kit_bt, Bool.not_true, Bool.not_false, if_false, reduceCtorEq, Nat.reduceLT, Int.reduceLE, Int.reduceLT, Int.reduceEq, decide_true, decide_false, wipeP, List.getElem?_cons_zero, List.getElem?_cons_succ, List.getElem?_nil, List.set_cons_zero, List.set_cons_succ, Option.map_some, if_true, Bool.false_eq_true, and_true, true_and, List.append_nil, a_qFn, at0, at1, at2, at3, a_pRet2, a_pRel, a_piRng3, a_pParO, eq_self, List.take_succ_cons, List.take_zero, List.drop_succ_cons, List.drop_zero, List.singleton_append, Nat.reduceLeDiff, Option.map_none, Option.toList_some, Option.toList_none, a_qMaxL, a_qRg1, a_piRg, a_pFld, a_qIsO, a_pProp, a_pRevT, a_pSlA, a_pMeth, a_pParSO, a_pAppPop, a_qListS, a_qSortS, Int.natAbs_natCast])
section
variable {P : Program} {w : World} {K : PySem.W.Frag} {mg : Str → Option Value} {base : Heap} {Z : Pv.Zc}
local macro_rules | `(tactic| walk_at "pp") => `(tactic| simp only [rho, List.map_cons, List.map_nil, List.length_cons, List.length_nil, Nat.reduceAdd, Nat.reduceSub, List.replicate_zero, List.replicate_succ, List.cons_append, List.nil_append, a_pSeq, a_pRet, a_pRetN, a_pNext, a_pIfS, a_pSet, a_pOwn, a_pDrop, a_pPar, a_pPar3, a_pApp, a_pSetI, a_pAsg, a_pNever, a_pV, a_pC, a_pOp, a_pUn, a_pCB, a_pNil, a_pCons, a_pTest, a_pAnd, a_pOr, a_pNot, a_pAndV, a_pOrV, a_pNotV, a_pIf, a_pTup, a_pLst, a_pCall, a_pKw, a_pBMs, a_pChain, a_pOrT, a_pNotT, a_pThen, a_pSl, a_pNoPart, a_pPart, a_pLc, a_pFor, a_piList, a_piTup, a_piStr, a_piRng1, a_piRng2, a_piZip, a_piEnum, a_pYes, bD, iD, sD, lD, tD, oD, ownD, cl, cls, rv, asL, a_p0I, a_pCI, a_pEq, a_pAddS, a_pCat, a_pCatT, a_pIxL, a_pIxT, a_pIxS, a_pNeg, a_pSlL, a_pSlT, a_pSlS, a_qLen, a_qInt, a_qAbs, a_qMax, a_qMin, a_qStrI, a_qIsi, a_qSum, a_qAll, a_qAny, a_qList, a_qTup, a_mJoin, tyD, clD, truD, okT, wd_lst, wd_fre, wd_tup, wd_str, a_pgName, pgTup, pgCons, pgNil, a_pgStar, kit_ss, kit_si, kit_sb, kit_st, kit_ii, kit_ib, kit_is, kit_it, kit_tt, kit_ts, kit_ti, kit_bi, kit_bb, kit_bs, kit_bt, Bool.not_true, Bool.not_false, if_false, reduceCtorEq, Nat.reduceLT, Int.reduceLE, Int.reduceLT, Int.reduceEq, decide_true, decide_false, wipeP, List.getElem?_cons_zero, List.getElem?_cons_succ, List.getElem?_nil, List.set_cons_zero, List.set_cons_succ, Option.map_some, if_true, Bool.false_eq_true, and_true, true_and, List.append_nil, a_qFn, at0, at1, at2, at3, a_pRet2, a_pRel, a_piRng3, a_pParO, eq_self, List.take_succ_cons, List.take_zero, List.drop_succ_cons, List.drop_zero, List.singleton_append, Nat.reduceLeDiff, Option.map_none, Option.toList_some, Option.toList_none, a_qMaxL, a_qRg1, a_piRg, a_pFld, a_qIsO, a_pProp, a_pRevT, a_pSlA, a_pMeth, a_pParSO, a_pAppPop, a_qListS, a_qSortS, Int.natAbs_natCast])
variable {p : Addr}
abbrev s__law_lean : Stmt := top 24
theorem sc__law_lean : FnScope ["letters_here", "saying_here", "times", "k"] ["letters_here", "saying_here"] (defScope s__law_lean) := ⟨rfl, rfl, rfl, by decide +kernel, rfl, by decide +kernel, by decide +kernel⟩
def S__law_lean : PSp := fun ds Q => ∃ z s, ds = [.str z, sayD s] ∧ CaseOk z ∧ SayOk z s ∧ Q (.lst ((leansF z s).map .int))
theorem h__law_lean {f : Addr} {fd : FuncData} (F : Fun K "_law_lean" "_law_lean" s__law_lean f fd) (m : mg "_law_lean" = some (.ref f)) (B : Bn mg) : Has P w K mg base Z "_law_lean" 1 ["letters_here", "saying_here"] S__law_lean := by
  refine Has.of F m sc__law_lean (F.binds (fun _ _ _ _ _ _ us hl => match us, hl with | [_, _], _ => rfl)) (fun ds Q h => by obtain ⟨_, _, rfl, _⟩ := h; rfl) fun cdv A outer s H E hr => ?_
  refine ⟨_, _, (pss_cons (ps_set (i := 2) sc__law_lean.nd rfl (by first | exact Or.inl rfl | exact Or.inr rfl) (pe_ifExp (pt_cmpR op_eq (pe_ix (r := (rIxT K)) (by exact ix_tup) (pv 1) pe_int (fun _ _ => rfl)) pe_str (nomark _)) (pe_ix (r := (rIxT K)) (by exact ix_tup) (pv 1) pe_int (fun _ _ => rfl)) pe_int)) (pss_one (ps_ret (pe_lc (own := [("k", 3)]) (wi := (iStr (tVar 0))) (g := (gName 3)) (tt := tYes) (te := (tOp zSub (tCB (zInt) (tCons (tOp rInS (tVar 3) (tOp (rIxT K) (tVar 1) (tC (.int 1)))) tNil)) (tOp zMul (tVar 2) (tCB (zInt) (tCons (tOp rInS (tVar 3) (tOp (rIxT K) (tVar 1) (tC (.int 2)))) tNil))))) rfl sc__law_lean.nd (pi_str (pv 0)) (blkOk_by (N := ["letters_here", "saying_here", "times", "k"]) (sc := defScope s__law_lean) (by decide +kernel)) (fun _ _ _ _ _ => (pg_name (i := 3) sc__law_lean.nd rfl (by first | exact Or.inl rfl | exact Or.inr rfl))) (fun _ _ _ _ _ => pts_nil) (fun _ _ _ _ _ => (pe_op o_sub (pe_callTy (r := zInt) c_int (by rfl) B.int PyProof.Rows.boot_int (pa_cons (pe_cmpR op_inS (pv 3) (pe_ix (r := (rIxT K)) (by exact ix_tup) (pv 1) pe_int (fun _ _ => rfl)) (by rfl)) pa_nil)) (pe_op o_mul (pv 2) (pe_callTy (r := zInt) c_int (by rfl) B.int PyProof.Rows.boot_int (pa_cons (pe_cmpR op_inS (pv 3) (pe_ix (r := (rIxT K)) (by exact ix_tup) (pv 1) pe_int (fun _ _ => rfl)) (by rfl)) pa_nil))))))))), (s_seq (s_set (s_if (s_test (s_op s_eq (s_op s_ixT s_var s_int) s_str)) (s_op s_ixT s_var s_int) s_int)) (s_ret (s_lc (s_iStr s_var) s_gName s_yes (s_op k_sub (s_cb k_int (s_cons (s_op s_inS s_var (s_op s_ixT s_var s_int)) s_nil)) (s_op k_mul s_var (s_cb k_int (s_cons (s_op s_inS s_var (s_op s_ixT s_var s_int)) s_nil)))) (by decide)))), fun ds Q h => ?_⟩
  obtain ⟨z, ⟨w0, a, b, n⟩, rfl, hz, hk0, q⟩ := h
  have hh := hz.hi
  have e : (leansF z ⟨w0, a, b, n⟩).map Dt.int = z.cps.toList.map fun c => Dt.int (leanI ⟨w0, a, b, n⟩ c) := by
    unfold leansF
    rw [List.map_map]
    rfl
  rw [e] at q
  rcases hk0.k with ⟨hw, hn⟩ | ⟨hw, t, hn, h2, h9⟩
  · have hn' : n = none := hn
    subst hn'
    have hx : w0 ≠ "times" := by
      have hw' : w0 = "more" ∨ w0 = "least" ∨ w0 = "same" := hw
      rcases hw' with rfl | rfl | rfl <;> decide +kernel
    show (pSeq _ _) _ [Sl.sh (.str z), Sl.sh (Dt.tup [.str w0, .str a, .str b]), .un, .un]
    refine seq_step fun N hN => ?_
    walk_at "pp"
    rw [if_neg (fun z => hx (of_decide_eq_true z))]
    subst hN
    walk_at "pp"
    refine lc_map sgn (fun c => .int (leanI ⟨w0, a, b, none⟩ c)) (fun c _ Y S y => ?_) (by rw [List.length_nil]; omega) (by rw [List.nil_append]; exact q)
    unfold turnC
    walk_at "pp"
    refine ⟨c, a, rfl, rfl, ⟨c, b, rfl, rfl, ?_⟩⟩
    show CMul 1 (if decide (c ∈ b.cps.toList) = true then 1 else 0) ∧ Y (Dt.int ((if decide (c ∈ a.cps.toList) = true then 1 else 0) - 1 * if decide (c ∈ b.cps.toList) = true then 1 else 0))
    refine ⟨.inl ⟨by omega, by omega⟩, ?_⟩
    unfold leanI Say.t at y
    by_cases g1 : c ∈ a.cps.toList <;> by_cases g2 : c ∈ b.cps.toList <;> simpa [g1, g2] using y
  · have hn' : n = some t := hn
    have hw' : w0 = "times" := hw
    subst hn' hw'
    show (pSeq _ _) _ [Sl.sh (.str z), Sl.sh (Dt.tup [.str "times", .str a, .str b, .int t]), .un, .un]
    refine seq_step fun N hN => ?_
    walk_at "pp"
    subst hN
    walk_at "pp"
    refine lc_map sgn (fun c => .int (leanI ⟨"times", a, b, some t⟩ c)) (fun c _ Y S y => ?_) (by rw [List.length_nil]; omega) (by rw [List.nil_append]; exact q)
    unfold turnC
    walk_at "pp"
    refine ⟨c, a, rfl, rfl, ⟨c, b, rfl, rfl, ?_⟩⟩
    show CMul t (if decide (c ∈ b.cps.toList) = true then 1 else 0) ∧ Y (Dt.int ((if decide (c ∈ a.cps.toList) = true then 1 else 0) - t * if decide (c ∈ b.cps.toList) = true then 1 else 0))
    refine ⟨.inl ⟨by omega, by omega⟩, ?_⟩
    unfold leanI Say.t at y
    by_cases g1 : c ∈ a.cps.toList <;> by_cases g2 : c ∈ b.cps.toList <;> simpa [g1, g2] using y
theorem lawlean_of {z : Str} {s : Say} {ds : List Dt} {Q : Dt → Prop} (e : Dt.tup ds = sayD s) (hz : CaseOk z) (hs : SayOk z s) (q : Q (.lst ((leansF z s).map .int))) : S__law_lean [.str z, .tup ds] Q := ⟨z, s, by rw [e], hz, hs, q⟩
theorem at_mapI (r : List Int) (i : Nat) (h : i < r.length) : atI (r.map Dt.int) (0 + (i : Int)) = some (.int (r.getD i 0)) := by
  have h1 : ixN (r.map Dt.int).length (0 + (i : Int)) = some i := by
    unfold ixN
    rw [List.length_map, if_pos (by omega), if_pos (by omega)]
    congr 1
    omega
  unfold atI
  rw [h1]
  show (r.map Dt.int)[i]? = _
  rw [List.getElem?_map, List.getElem?_eq_getElem h, List.getD_eq_getElem?_getD, List.getElem?_eq_getElem h]
  rfl
theorem range_zip : ∀ (rs xs : List Int), rs.length ≤ xs.length → ((List.range rs.length).map fun i => rs.getD i 0 * xs.getD i 0) = (rs.zip xs).map fun p => p.1 * p.2
  | [], _, _ => rfl
  | r :: rs, [], h => by simp at h
  | r :: rs, x :: xs, h => by
    rw [List.length_cons, List.range_succ_eq_map, List.map_cons, List.map_map, List.zip_cons_cons, List.map_cons, ← range_zip rs xs (by simpa using h)]
    rfl
abbrev s__law_worth : Stmt := top 25
theorem sc__law_worth : FnScope ["lean", "weights_here", "k"] ["lean", "weights_here"] (defScope s__law_worth) := ⟨rfl, rfl, rfl, by decide +kernel, rfl, by decide +kernel, by decide +kernel⟩
def S__law_worth : PSp := fun ds Q => ∃ rs xs : List Int, ds = [.lst (rs.map .int), .lst (xs.map .int)] ∧ rs.length ≤ xs.length ∧ rs.length ≤ 100 ∧ (∀ r ∈ rs, -1000 ≤ r ∧ r ≤ 1000) ∧ Q (.int ((rs.zip xs).map fun p => p.1 * p.2).sum)
theorem h__law_worth {f : Addr} {fd : FuncData} (F : Fun K "_law_worth" "_law_worth" s__law_worth f fd) (m : mg "_law_worth" = some (.ref f)) (B : Bn mg) : Has P w K mg base Z "_law_worth" 1 ["lean", "weights_here"] S__law_worth := by
  refine Has.of F m sc__law_worth (F.binds (fun _ _ _ _ _ _ us hl => match us, hl with | [_, _], _ => rfl)) (fun ds Q h => by obtain ⟨_, _, rfl, _⟩ := h; rfl) fun cdv A outer s H E hr => ?_
  refine ⟨_, _, (pss_one (ps_ret (pe_callB (r := rSum K) (by exact cr_sum rfl) (by rfl) B.sum (by decide +kernel) (pa_cons (pe_lc (own := [("k", 2)]) (wi := (iRng1 (tCons (tCB (zLen K) (tCons (tVar 0) tNil)) tNil))) (g := (gName 2)) (tt := tYes) (te := (tOp zMul (tOp (rIxL K) (tVar 0) (tVar 2)) (tOp (rIxL K) (tVar 1) (tVar 2)))) rfl sc__law_worth.nd (pi_range1 rfl B.range (pa_cons (pe_callB (r := zLen K) (by exact c_len) (by rfl) B.len PySem.boot_len (pa_cons (pv 0) pa_nil)) pa_nil)) (blkOk_by (N := ["lean", "weights_here", "k"]) (sc := defScope s__law_worth) (by decide +kernel)) (fun _ _ _ _ _ => (pg_name (i := 2) sc__law_worth.nd rfl (by first | exact Or.inl rfl | exact Or.inr rfl))) (fun _ _ _ _ _ => pts_nil) (fun _ _ _ _ _ => (pe_op o_mul (pe_ix (r := (rIxL K)) (by exact ix_list) (pv 0) (pv 2) (fun _ _ => rfl)) (pe_ix (r := (rIxL K)) (by exact ix_list) (pv 1) (pv 2) (fun _ _ => rfl))))) pa_nil)))), (s_ret (s_cb q_sum (s_cons (s_lc (s_iRng1 (s_cons (s_cb k_len (s_cons s_var s_nil)) s_nil)) s_gName s_yes (s_op k_mul (s_op s_ixL s_var s_var) (s_op s_ixL s_var s_var)) (by decide)) s_nil))), fun ds Q h => ?_⟩
  obtain ⟨rs, xs, rfl, hl, h100, hb, q⟩ := h
  show (pRet _) _ [Sl.sh (.lst (rs.map .int)), Sl.sh (.lst (xs.map .int)), .un]
  walk_at "pp"
  rw [List.length_map]
  refine ⟨by omega, by omega, ?_⟩
  unfold rng
  refine lc_map (fun i : Nat => Dt.int (0 + (i : Int))) (fun i : Nat => Dt.int (rs.getD i 0 * xs.getD i 0)) (fun i hi Y S y => ?_) ?_ ?_
  · have hi' : i < rs.length := by
      have := List.mem_range.mp hi
      omega
    have hr : rs.getD i 0 ∈ rs := by
      rw [List.getD_eq_getElem?_getD, List.getElem?_eq_getElem hi']
      exact List.getElem_mem hi'
    have := hb _ hr
    unfold turnC
    walk_at "pp"
    rw [at_mapI rs i hi', at_mapI xs i (by omega)]
    exact ⟨.inl ⟨by omega, by omega⟩, y⟩
  · rw [List.length_nil, List.length_range]
    omega
  · rw [List.nil_append, Int.toNat_natCast, allI_map (fun i : Nat => rs.getD i 0 * xs.getD i 0), range_zip rs xs hl]
    exact q
theorem worth_of {rs xs : List Int} {Q : Dt → Prop} (h1 : rs.length ≤ xs.length) (h2 : rs.length ≤ 100) (hb : ∀ r ∈ rs, -1000 ≤ r ∧ r ≤ 1000) (q : Q (.int ((rs.zip xs).map fun p => p.1 * p.2).sum)) : S__law_worth [.lst (rs.map .int), .lst (xs.map .int)] Q := ⟨rs, xs, rfl, h1, h2, hb, q⟩
abbrev s__law_holds : Stmt := top 26
theorem sc__law_holds : FnScope ["letters_here", "saying_here", "weights_here", "worth"] ["letters_here", "saying_here", "weights_here"] (defScope s__law_holds) := ⟨rfl, rfl, rfl, by decide +kernel, rfl, by decide +kernel, by decide +kernel⟩
def S__law_holds : PSp := fun ds Q => ∃ (z : Str) (s : Say) (xs : List Int), ds = [.str z, sayD s, .lst (xs.map .int)] ∧ CaseOk z ∧ SayOk z s ∧ z.cps.toList.length ≤ xs.length ∧ Q (.bl (holdsF z s xs))
theorem h__law_holds {f : Addr} {fd : FuncData} (F : Fun K "_law_holds" "_law_holds" s__law_holds f fd) (m : mg "_law_holds" = some (.ref f)) (B : Bn mg) (H__law_lean : Has P w K mg base Z "_law_lean" 1 ["letters_here", "saying_here"] S__law_lean) (H__law_worth : Has P w K mg base Z "_law_worth" 1 ["lean", "weights_here"] S__law_worth) : Has P w K mg base Z "_law_holds" 2 ["letters_here", "saying_here", "weights_here"] S__law_holds := by
  obtain ⟨f__law_lean, d__law_lean, m__law_lean, k__law_lean, b__law_lean, G__law_lean⟩ := H__law_lean.ex
  obtain ⟨f__law_worth, d__law_worth, m__law_worth, k__law_worth, b__law_worth, G__law_worth⟩ := H__law_worth.ex
  refine Has.of F m sc__law_holds (F.binds (fun _ _ _ _ _ _ us hl => match us, hl with | [_, _, _], _ => rfl)) (fun ds Q h => by obtain ⟨_, _, _, rfl, _⟩ := h; rfl) fun cdv A outer s H E hr => ?_
  refine ⟨_, _, (pss_cons (ps_set (i := 3) sc__law_holds.nd rfl (by first | exact Or.inl rfl | exact Or.inr rfl) (pe_call G__law_worth (hr.mono (by decide)) rfl m__law_worth k__law_worth b__law_worth .nil pass0 (pa_cons (pe_call G__law_lean (hr.mono (by decide)) rfl m__law_lean k__law_lean b__law_lean .nil pass0 (pa_cons (pv 0) (pa_cons (pv 1) pa_nil))) (pa_cons (pv 2) pa_nil)))) (pss_cons (ps_if (pt_cmpR op_eq (pe_ix (r := (rIxT K)) (by exact ix_tup) (pv 1) pe_int (fun _ _ => rfl)) pe_str (nomark _)) (pss_one (ps_ret (pe_cmpR o_gt (pv 3) pe_int (nomark _)))) pss_nil) (pss_one (ps_ret (pe_ifExp (pt_cmpR op_eq (pe_ix (r := (rIxT K)) (by exact ix_tup) (pv 1) pe_int (fun _ _ => rfl)) pe_str (nomark _)) (pe_cmpR op_eq (pv 3) pe_int (nomark _)) (pe_cmpR o_ge (pv 3) pe_int (nomark _))))))), (s_seq (s_set (s_call (s_cons (s_call (s_cons s_var (s_cons s_var s_nil))) (s_cons s_var s_nil)))) (s_seq (s_ifS (s_test (s_op s_eq (s_op s_ixT s_var s_int) s_str)) (s_ret (s_op k_gt s_var s_int)) s_next) (s_ret (s_if (s_test (s_op s_eq (s_op s_ixT s_var s_int) s_str)) (s_op s_eq s_var s_int) (s_op k_ge s_var s_int))))), fun ds Q h => ?_⟩
  obtain ⟨z, s, xs, rfl, hz, hs, hx, q⟩ := h
  obtain ⟨w0, a, b, n⟩ := s
  show (pSeq _ _) _ [Sl.sh (.str z), Sl.sh (Dt.tup (.str w0 :: .str a :: .str b :: (n.map Dt.int).toList)), Sl.sh (.lst (xs.map .int)), .un]
  have hl : z.cps.toList.length ≤ 6 := hz.hi
  have ll : (leansF z ⟨w0, a, b, n⟩).length = z.cps.toList.length := by
    unfold leansF
    rw [List.length_map]
  refine seq_step fun N hN => ?_
  walk_at "pp"
  refine lawlean_of (s := ⟨w0, a, b, n⟩) rfl hz hs ?_
  walk_at "pp"
  refine worth_of (by omega) (by omega) (fun r hr => ?_) ?_
  · obtain ⟨c, _, rfl⟩ := List.mem_map.mp hr
    have := leanI_bd hs c
    constructor <;> omega
  walk_at "pp"
  subst hN
  unfold holdsF foundF at q
  simp only at q
  generalize (List.map (fun p : Int × Int => p.1 * p.2) ((leansF z ⟨w0, a, b, n⟩).zip xs)).sum = fd0 at *
  refine seq_step fun N hN => ?_
  walk_at "pp"
  refine dec2 (fun g => ?_) fun g => ?_
  · rw [if_pos g] at q
    exact q
  · rw [if_neg g] at q
    subst hN
    walk_at "pp"
    refine dec2 (fun g2 => ?_) fun g2 => ?_
    · rw [if_pos g2] at q
      exact q
    · rw [if_neg g2] at q
      exact q
theorem lholds_of {z : Str} {s : Say} {ds : List Dt} {xs : List Int} {Q : Dt → Prop} (e : Dt.tup ds = sayD s) (hz : CaseOk z) (hs : SayOk z s) (hx : z.cps.toList.length ≤ xs.length) (q : Q (.bl (holdsF z s xs))) : S__law_holds [.str z, .tup ds, .lst (xs.map .int)] Q := ⟨z, s, xs, by rw [e], hz, hs, hx, q⟩
theorem at_strs (zs : List Str) (r : Int) (h0 : 0 ≤ r) (h1 : r < zs.length) : ∃ x ∈ zs, atI (zs.map Dt.str) r = some (.str x) := by
  obtain ⟨i, rfl⟩ : ∃ i : Nat, r = i := ⟨r.toNat, by omega⟩
  have hi : i < zs.length := by omega
  refine ⟨zs[i], List.getElem_mem hi, ?_⟩
  have e : ixN (zs.map Dt.str).length (i : Int) = some i := by
    unfold ixN
    rw [List.length_map, if_pos (by omega), if_pos (by omega)]
    simp
  unfold atI
  rw [e]
  show (zs.map Dt.str)[i]? = _
  rw [List.getElem?_map, List.getElem?_eq_getElem hi]
  rfl
end

local macro_rules | `(tactic| walk_at "pp") => `(tactic| simp only [rho, List.map_cons, List.map_nil, List.length_cons, List.length_nil, Nat.reduceAdd, Nat.reduceSub, List.replicate_zero, List.replicate_succ, List.cons_append, List.nil_append, a_pSeq, a_pRet, a_pRetN, a_pNext, a_pIfS, a_pSet, a_pOwn, a_pDrop, a_pPar, a_pPar3, a_pApp, a_pSetI, a_pAsg, a_pNever, a_pV, a_pC, a_pOp, a_pUn, a_pCB, a_pNil, a_pCons, a_pTest, a_pAnd, a_pOr, a_pNot, a_pAndV, a_pOrV, a_pNotV, a_pIf, a_pTup, a_pLst, a_pCall, a_pKw, a_pBMs, a_pChain, a_pOrT, a_pNotT, a_pThen, a_pSl, a_pNoPart, a_pPart, a_pLc, a_pFor, a_piList, a_piTup, a_piStr, a_piRng1, a_piRng2, a_piZip, a_piEnum, a_pYes, bD, iD, sD, lD, tD, oD, ownD, cl, cls, rv, asL, a_p0I, a_pCI, a_pEq, a_pAddS, a_pCat, a_pCatT, a_pIxL, a_pIxT, a_pIxS, a_pNeg, a_pSlL, a_pSlT, a_pSlS, a_qLen, a_qInt, a_qAbs, a_qMax, a_qMin, a_qStrI, a_qIsi, a_qSum, a_qAll, a_qAny, a_qList, a_qTup, a_mJoin, tyD, clD, truD, okT, wd_lst, wd_fre, wd_tup, wd_str, a_pgName, pgTup, pgCons, pgNil, a_pgStar, kit_ss, kit_si, kit_sb, kit_st, kit_ii, kit_ib, kit_is, kit_it, kit_tt, kit_ts, kit_ti, kit_bi, kit_bb, kit_bs, kit_bt, Bool.not_true, Bool.not_false, if_false, reduceCtorEq, Nat.reduceLT, Int.reduceLE, Int.reduceLT, Int.reduceEq, decide_true, decide_false, wipeP, List.getElem?_cons_zero, List.getElem?_cons_succ, List.getElem?_nil, List.set_cons_zero, List.set_cons_succ, Option.map_some, if_true, Bool.false_eq_true, and_true, true_and, List.append_nil, a_qFn, at0, at1, at2, at3, a_pRet2, a_pRel, a_piRng3, a_pParO, eq_self, List.take_succ_cons, List.take_zero, List.drop_succ_cons, List.drop_zero, List.singleton_append, Nat.reduceLeDiff, Option.map_none, Option.toList_some, Option.toList_none, a_qMaxL, a_qRg1, a_piRg, a_pFld, a_qIsO, a_pProp, a_pRevT, a_pSlA, a_pMeth, a_pParSO, a_pAppPop, a_qListS, a_qSortS, Int.natAbs_natCast])
section
variable {P : Program} {w : World} {K : PySem.W.Frag} {mg : Str → Option Value} {base : Heap} {Z : Pv.Zc}
local macro_rules | `(tactic| walk_at "pp") => `(tactic| simp only [rho, List.map_cons, List.map_nil, List.length_cons, List.length_nil, Nat.reduceAdd, Nat.reduceSub, List.replicate_zero, List.replicate_succ, List.cons_append, List.nil_append, a_pSeq, a_pRet, a_pRetN, a_pNext, a_pIfS, a_pSet, a_pOwn, a_pDrop, a_pPar, a_pPar3, a_pApp, a_pSetI, a_pAsg, a_pNever, a_pV, a_pC, a_pOp, a_pUn, a_pCB, a_pNil, a_pCons, a_pTest, a_pAnd, a_pOr, a_pNot, a_pAndV, a_pOrV, a_pNotV, a_pIf, a_pTup, a_pLst, a_pCall, a_pKw, a_pBMs, a_pChain, a_pOrT, a_pNotT, a_pThen, a_pSl, a_pNoPart, a_pPart, a_pLc, a_pFor, a_piList, a_piTup, a_piStr, a_piRng1, a_piRng2, a_piZip, a_piEnum, a_pYes, bD, iD, sD, lD, tD, oD, ownD, cl, cls, rv, asL, a_p0I, a_pCI, a_pEq, a_pAddS, a_pCat, a_pCatT, a_pIxL, a_pIxT, a_pIxS, a_pNeg, a_pSlL, a_pSlT, a_pSlS, a_qLen, a_qInt, a_qAbs, a_qMax, a_qMin, a_qStrI, a_qIsi, a_qSum, a_qAll, a_qAny, a_qList, a_qTup, a_mJoin, tyD, clD, truD, okT, wd_lst, wd_fre, wd_tup, wd_str, a_pgName, pgTup, pgCons, pgNil, a_pgStar, kit_ss, kit_si, kit_sb, kit_st, kit_ii, kit_ib, kit_is, kit_it, kit_tt, kit_ts, kit_ti, kit_bi, kit_bb, kit_bs, kit_bt, Bool.not_true, Bool.not_false, if_false, reduceCtorEq, Nat.reduceLT, Int.reduceLE, Int.reduceLT, Int.reduceEq, decide_true, decide_false, wipeP, List.getElem?_cons_zero, List.getElem?_cons_succ, List.getElem?_nil, List.set_cons_zero, List.set_cons_succ, Option.map_some, if_true, Bool.false_eq_true, and_true, true_and, List.append_nil, a_qFn, at0, at1, at2, at3, a_pRet2, a_pRel, a_piRng3, a_pParO, eq_self, List.take_succ_cons, List.take_zero, List.drop_succ_cons, List.drop_zero, List.singleton_append, Nat.reduceLeDiff, Option.map_none, Option.toList_some, Option.toList_none, a_qMaxL, a_qRg1, a_piRg, a_pFld, a_qIsO, a_pProp, a_pRevT, a_pSlA, a_pMeth, a_pParSO, a_pAppPop, a_qListS, a_qSortS, Int.natAbs_natCast])
variable {p : Addr}
theorem at_ints (zs : List Int) (r : Int) (h0 : 0 ≤ r) (h1 : r < zs.length) : ∃ x ∈ zs, atI (zs.map Dt.int) r = some (.int x) := by
  obtain ⟨i, rfl⟩ : ∃ i : Nat, r = i := ⟨r.toNat, by omega⟩
  have hi : i < zs.length := by omega
  refine ⟨zs[i], List.getElem_mem hi, ?_⟩
  have e := at_mapI zs i hi
  rw [show (0 : Int) + (i : Int) = (i : Int) by omega] at e
  rw [e, List.getD_eq_getElem?_getD, List.getElem?_eq_getElem hi]
  rfl
theorem sum_set_pos : ∀ (ns : List Nat) (j v : Nat), j < ns.length → 0 < v → 0 < (ns.set j v).sum
  | n :: ns, 0, v, _, h => by
    show 0 < (v :: ns).sum
    rw [List.sum_cons]
    omega
  | n :: ns, j + 1, v, hj, h => by
    show 0 < (n :: ns.set j v).sum
    rw [List.sum_cons]
    have := sum_set_pos ns j v (by simpa using hj) h
    omega
def natsD (ns : List Nat) : List Dt := ns.map fun n : Nat => Dt.int (n : Nat)
abbrev s__law_weights : Stmt := top 27
theorem sc__law_weights : FnScope ["kiln", "size", "found", "k"] ["kiln", "size"] (defScope s__law_weights) := ⟨rfl, rfl, rfl, by decide +kernel, rfl, by decide +kernel, by decide +kernel⟩
def S__law_weights (p : Addr) : PSp := fun ds Q => ∃ n : Nat, ds = [kiD p, .int (n : Nat)] ∧ 1 ≤ n ∧ n ≤ 6 ∧ ∀ ws : List Nat, ws.length = n → (∀ w ∈ ws, w ≤ 20) → 0 < ws.sum → Q (.lst (natsD ws))
theorem h__law_weights {f : Addr} {fd : FuncData} (F : Fun K "_law_weights" "_law_weights" s__law_weights f fd) (m : mg "_law_weights" = some (.ref f)) (B : Bn mg) (H__law_scoop : Has P w K mg base (Zk p) "_law_scoop" 1 ["kiln", "amount"] (S__law_scoop p)) : Has P w K mg base (Zk p) "_law_weights" 2 ["kiln", "size"] (S__law_weights p) := by
  obtain ⟨f__law_scoop, d__law_scoop, m__law_scoop, k__law_scoop, b__law_scoop, G__law_scoop⟩ := H__law_scoop.ex
  refine Has.of F m sc__law_weights (F.binds (fun _ _ _ _ _ _ us hl => match us, hl with | [_, _], _ => rfl)) (fun ds Q h => by obtain ⟨_, rfl, _⟩ := h; rfl) fun cdv A outer s H E hr => ?_
  refine ⟨_, _, (pss_cons (ps_setLc (i := 2) (own := [("k", 3)]) (wi := (iRng1 (tCons (tVar 1) tNil))) (g := (gName 3)) (tt := tYes) (te := (tCall (spD K (Zk p) (S__law_scoop p)) [] E0 (tCons (tVar 0) (tCons (tOp (rIxL K) (tLst (tCons (tC (.int 3)) (tCons (tC (.int 6)) (tCons (tC (.int 20)) tNil)))) (tCall (spD K (Zk p) (S__law_scoop p)) [] E0 (tCons (tVar 0) (tCons (tC (.int 3)) tNil)))) tNil)))) rfl sc__law_weights.nd rfl rfl (sw_true rfl rfl rfl (by decide +kernel)) (pi_range1 rfl B.range (pa_cons (pv 1) pa_nil)) (blkOk_by (N := ["kiln", "size", "found", "k"]) (sc := defScope s__law_weights) (by decide +kernel)) (fun _ _ _ _ _ => (pg_name (i := 3) sc__law_weights.nd rfl (by first | exact Or.inl rfl | exact Or.inr rfl))) (fun _ _ _ _ _ => pts_nil) (fun _ _ _ _ _ => (pe_call G__law_scoop (hr.mono (by decide)) rfl m__law_scoop k__law_scoop b__law_scoop .nil pass0 (pa_cons (pv 0) (pa_cons (pe_ix (r := (rIxL K)) (by exact ix_list) (pe_lst (pa_cons pe_int (pa_cons pe_int (pa_cons pe_int pa_nil)))) (pe_call G__law_scoop (hr.mono (by decide)) rfl m__law_scoop k__law_scoop b__law_scoop .nil pass0 (pa_cons (pv 0) (pa_cons pe_int pa_nil))) (fun _ _ => rfl)) pa_nil))))) (pss_cons (ps_asg (pe_op o_add pe_int (pe_call G__law_scoop (hr.mono (by decide)) rfl m__law_scoop k__law_scoop b__law_scoop .nil pass0 (pa_cons (pv 0) (pa_cons pe_int pa_nil)))) (pg_sub (pv 2) (pe_call G__law_scoop (hr.mono (by decide)) rfl m__law_scoop k__law_scoop b__law_scoop .nil pass0 (pa_cons (pv 0) (pa_cons (pv 1) pa_nil))) set_list)) (pss_one (ps_ret (pv 2))))), (s_seq (s_own (s_lc (s_iRng1 (s_cons s_var s_nil)) s_gName s_yes (s_call (s_cons s_var (s_cons (s_op s_ixL (s_lst (s_cons s_int (s_cons s_int (s_cons s_int s_nil)))) (s_call (s_cons s_var (s_cons s_int s_nil)))) s_nil))) (by decide))) (s_seq (s_setI (s_op k_add s_int (s_call (s_cons s_var (s_cons s_int s_nil)))) (s_call (s_cons s_var (s_cons s_var s_nil)))) (s_ret s_var))), fun ds Q h => ?_⟩
  obtain ⟨n, rfl, h1, h6, q⟩ := h
  show (pSeq _ _) _ [Sl.sh (.raw (.ref p)), Sl.sh (.int (n : Nat)), .un, .un]
  refine seq_step fun N hN => ?_
  walk_at "pp"
  refine ⟨by omega, by omega, ?_⟩
  unfold rng
  refine lc_inv (fun i : Nat => Dt.int (0 + (i : Int))) (fun rest acc => ∃ ns : List Nat, acc = natsD ns ∧ ns.length + rest.length = n ∧ ∀ w ∈ ns, w ≤ 20) (fun c rest acc hi Y S hy hs => ?_) (fun c rest acc hi => ?_) (fun acc hi => ?_) _ _ ⟨[], rfl, by rw [List.length_range]; simp, fun _ h => by cases h⟩
  · obtain ⟨ns, rfl, hl, hw⟩ := hi
    unfold turnC
    walk_at "pp"
    refine ⟨by rw [sizeLine_eq]; omega, ?_⟩
    refine scoop_of (by decide) (by decide) fun r r0 r1 => ?_
    walk_at "pp"
    obtain ⟨x, hx, e⟩ := at_ints [3, 6, 20] r r0 r1
    have e' : atI [Dt.int 3, Dt.int 6, Dt.int 20] r = some (.int x) := e
    have hx' : x = 3 ∨ x = 6 ∨ x = 20 := by simpa using hx
    rw [e']
    walk_at "pp"
    refine scoop_of (by omega) (by omega) fun u u0 u1 => ?_
    walk_at "pp"
    obtain ⟨v, rfl⟩ : ∃ v : Nat, u = v := ⟨u.toNat, by omega⟩
    refine hy _ ⟨ns ++ [v], by unfold natsD; rw [List.map_append]; rfl, by rw [List.length_append, List.length_singleton]; rw [List.length_cons] at hl; omega, fun w hw' => ?_⟩
    rcases List.mem_append.mp hw' with h | h
    · exact hw w h
    · rw [List.mem_singleton.mp h]
      omega
  · obtain ⟨ns, rfl, hl, hw⟩ := hi
    unfold natsD
    rw [List.length_map, sizeLine_eq]
    rw [List.length_cons] at hl
    omega
  · obtain ⟨ns, rfl, hl, hw⟩ := hi
    have hl' : ns.length = n := hl
    show N [Sl.sh (Dt.raw (V.ref p)), Sl.sh (Dt.int (n : Nat)), Sl.own (natsD ns), Sl.un]
    subst hN
    refine seq_step fun N hN => ?_
    walk_at "pp"
    refine scoop_of (by decide) (by decide) fun u u0 u1 => ?_
    walk_at "pp"
    refine scoop_of (by omega) (by omega) fun r r0 r1 => ?_
    walk_at "pp"
    obtain ⟨j, rfl⟩ : ∃ j : Nat, r = j := ⟨r.toNat, by omega⟩
    obtain ⟨v, rfl⟩ : ∃ v : Nat, u = v := ⟨u.toNat, by omega⟩
    have e1 : ixN (natsD ns).length (j : Int) = some j := by
      unfold ixN natsD
      rw [List.length_map, if_pos (by omega), if_pos (by omega)]
      simp
    rw [e1]
    walk_at "pp"
    subst hN
    walk_at "pp"
    have e2 : (natsD ns).set j (Dt.int (1 + (v : Int))) = natsD (ns.set j (1 + v)) := by
      unfold natsD
      rw [List.map_set]
      rfl
    rw [e2]
    refine q _ (by rw [List.length_set]; exact hl') (fun w hw' => ?_) (sum_set_pos _ _ _ (by omega) (by omega))
    rcases List.mem_or_eq_of_mem_set hw' with h | h
    · exact hw w h
    · omega
end

local macro_rules | `(tactic| walk_at "pp") => `(tactic| simp only [rho, List.map_cons, List.map_nil, List.length_cons, List.length_nil, Nat.reduceAdd, Nat.reduceSub, List.replicate_zero, List.replicate_succ, List.cons_append, List.nil_append, a_pSeq, a_pRet, a_pRetN, a_pNext, a_pIfS, a_pSet, a_pOwn, a_pDrop, a_pPar, a_pPar3, a_pApp, a_pSetI, a_pAsg, a_pNever, a_pV, a_pC, a_pOp, a_pUn, a_pCB, a_pNil, a_pCons, a_pTest, a_pAnd, a_pOr, a_pNot, a_pAndV, a_pOrV, a_pNotV, a_pIf, a_pTup, a_pLst, a_pCall, a_pKw, a_pBMs, a_pChain, a_pOrT, a_pNotT, a_pThen, a_pSl, a_pNoPart, a_pPart, a_pLc, a_pFor, a_piList, a_piTup, a_piStr, a_piRng1, a_piRng2, a_piZip, a_piEnum, a_pYes, bD, iD, sD, lD, tD, oD, ownD, cl, cls, rv, asL, a_p0I, a_pCI, a_pEq, a_pAddS, a_pCat, a_pCatT, a_pIxL, a_pIxT, a_pIxS, a_pNeg, a_pSlL, a_pSlT, a_pSlS, a_qLen, a_qInt, a_qAbs, a_qMax, a_qMin, a_qStrI, a_qIsi, a_qSum, a_qAll, a_qAny, a_qList, a_qTup, a_mJoin, tyD, clD, truD, okT, wd_lst, wd_fre, wd_tup, wd_str, a_pgName, pgTup, pgCons, pgNil, a_pgStar, kit_ss, kit_si, kit_sb, kit_st, kit_ii, kit_ib, kit_is, kit_it, kit_tt, kit_ts, kit_ti, kit_bi, kit_bb, kit_bs, kit_bt, Bool.not_true, Bool.not_false, if_false, reduceCtorEq, Nat.reduceLT, Int.reduceLE, Int.reduceLT, Int.reduceEq, decide_true, decide_false, wipeP, List.getElem?_cons_zero, List.getElem?_cons_succ, List.getElem?_nil, List.set_cons_zero, List.set_cons_succ, Option.map_some, if_true, Bool.false_eq_true, and_true, true_and, List.append_nil, a_qFn, at0, at1, at2, at3, a_pRet2, a_pRel, a_piRng3, a_pParO, eq_self, List.take_succ_cons, List.take_zero, List.drop_succ_cons, List.drop_zero, List.singleton_append, Nat.reduceLeDiff, Option.map_none, Option.toList_some, Option.toList_none, a_qMaxL, a_qRg1, a_piRg, a_pFld, a_qIsO, a_pProp, a_pRevT, a_pSlA, a_pMeth, a_pParSO, a_pAppPop, a_qListS, a_qSortS, Int.natAbs_natCast])
section
variable {P : Program} {w : World} {K : PySem.W.Frag} {mg : Str → Option Value} {base : Heap} {Z : Pv.Zc}
local macro_rules | `(tactic| walk_at "pp") => `(tactic| simp only [rho, List.map_cons, List.map_nil, List.length_cons, List.length_nil, Nat.reduceAdd, Nat.reduceSub, List.replicate_zero, List.replicate_succ, List.cons_append, List.nil_append, a_pSeq, a_pRet, a_pRetN, a_pNext, a_pIfS, a_pSet, a_pOwn, a_pDrop, a_pPar, a_pPar3, a_pApp, a_pSetI, a_pAsg, a_pNever, a_pV, a_pC, a_pOp, a_pUn, a_pCB, a_pNil, a_pCons, a_pTest, a_pAnd, a_pOr, a_pNot, a_pAndV, a_pOrV, a_pNotV, a_pIf, a_pTup, a_pLst, a_pCall, a_pKw, a_pBMs, a_pChain, a_pOrT, a_pNotT, a_pThen, a_pSl, a_pNoPart, a_pPart, a_pLc, a_pFor, a_piList, a_piTup, a_piStr, a_piRng1, a_piRng2, a_piZip, a_piEnum, a_pYes, bD, iD, sD, lD, tD, oD, ownD, cl, cls, rv, asL, a_p0I, a_pCI, a_pEq, a_pAddS, a_pCat, a_pCatT, a_pIxL, a_pIxT, a_pIxS, a_pNeg, a_pSlL, a_pSlT, a_pSlS, a_qLen, a_qInt, a_qAbs, a_qMax, a_qMin, a_qStrI, a_qIsi, a_qSum, a_qAll, a_qAny, a_qList, a_qTup, a_mJoin, tyD, clD, truD, okT, wd_lst, wd_fre, wd_tup, wd_str, a_pgName, pgTup, pgCons, pgNil, a_pgStar, kit_ss, kit_si, kit_sb, kit_st, kit_ii, kit_ib, kit_is, kit_it, kit_tt, kit_ts, kit_ti, kit_bi, kit_bb, kit_bs, kit_bt, Bool.not_true, Bool.not_false, if_false, reduceCtorEq, Nat.reduceLT, Int.reduceLE, Int.reduceLT, Int.reduceEq, decide_true, decide_false, wipeP, List.getElem?_cons_zero, List.getElem?_cons_succ, List.getElem?_nil, List.set_cons_zero, List.set_cons_succ, Option.map_some, if_true, Bool.false_eq_true, and_true, true_and, List.append_nil, a_qFn, at0, at1, at2, at3, a_pRet2, a_pRel, a_piRng3, a_pParO, eq_self, List.take_succ_cons, List.take_zero, List.drop_succ_cons, List.drop_zero, List.singleton_append, Nat.reduceLeDiff, Option.map_none, Option.toList_some, Option.toList_none, a_qMaxL, a_qRg1, a_piRg, a_pFld, a_qIsO, a_pProp, a_pRevT, a_pSlA, a_pMeth, a_pParSO, a_pAppPop, a_qListS, a_qSortS, Int.natAbs_natCast])
theorem le_sum : ∀ (ws : List Nat), ∀ w ∈ ws, w ≤ ws.sum
  | x :: ws, w, h => by
    rw [List.sum_cons]
    rcases List.mem_cons.mp h with rfl | h
    · omega
    · have := le_sum ws w h
      omega
theorem nsum_le (b : Nat) : ∀ ws : List Nat, (∀ w ∈ ws, w ≤ b) → ws.sum ≤ b * ws.length
  | [], _ => Nat.zero_le _
  | w :: ws, h => by
    have h1 := h w List.mem_cons_self
    have h2 := nsum_le b ws fun x hx => h x (List.mem_cons_of_mem _ hx)
    rw [List.sum_cons, List.length_cons, Nat.mul_succ]
    omega
def intL (ns : List Nat) : List Int := ns.map fun n : Nat => (n : Int)
theorem lotN_le {z y : Str} {ws : List Nat} : lotN z y ws ≤ ws.sum := by
  unfold lotN
  generalize z.cps.toList = cs
  induction cs generalizing ws with
  | nil => simp
  | cons c cs ih =>
    cases ws with
    | nil => simp
    | cons w ws =>
      rw [List.zip_cons_cons, List.filter_cons, List.sum_cons]
      have := ih (ws := ws)
      split
      · rw [List.map_cons, List.sum_cons]
        omega
      · omega
theorem range_fm (y : Str) : ∀ (cs ns : List Nat), cs.length ≤ ns.length → (((List.range cs.length).filter fun i => decide (cs.getD i 0 ∈ y.cps.toList)).map fun i => ns.getD i 0) = ((cs.zip ns).filter fun p => decide (p.1 ∈ y.cps.toList)).map fun p => p.2
  | [], _, _ => rfl
  | c :: cs, [], h => by simp at h
  | c :: cs, n :: ns, h => by
    have ih := range_fm y cs ns (by simpa using h)
    have f : (List.map Nat.succ (List.range cs.length)).filter (fun i => decide ((c :: cs).getD i 0 ∈ y.cps.toList)) = ((List.range cs.length).filter fun i => decide (cs.getD i 0 ∈ y.cps.toList)).map Nat.succ := by
      rw [List.filter_map]
      rfl
    rw [List.length_cons, List.range_succ_eq_map, List.filter_cons, List.zip_cons_cons, List.filter_cons, f]
    have g : (((List.range cs.length).filter fun i => decide (cs.getD i 0 ∈ y.cps.toList)).map Nat.succ).map (fun i => (n :: ns).getD i 0) = ((List.range cs.length).filter fun i => decide (cs.getD i 0 ∈ y.cps.toList)).map fun i => ns.getD i 0 := by
      rw [List.map_map]
      rfl
    have c0 : (c :: cs).getD 0 0 = c := rfl
    rw [c0]
    split
    · rw [List.map_cons, List.map_cons, g, ih]
      rfl
    · rw [g, ih]
theorem pds_nats : ∀ ns : List Nat, pds (natsD ns) = some (ns.map fun n : Nat => PyData.int (n : Nat))
  | [] => rfl
  | n :: ns => by
    show (match pd (Dt.int (n : Nat)), pds (natsD ns) with
      | some p, some ps => some (p :: ps)
      | _, _ => none) = _
    rw [pds_nats ns]
    rfl
theorem eqd_of {ρ : List Sl} {x y : Dt} {p q : PyData} {f : Bool → Bool} {R : Dt → Prop} {b : Bool} (h1 : pdv ρ x = some p) (h2 : pdv ρ y = some q) (h3 : PyData.canLay0 p = true) (h4 : PyData.canLay0 q = true) (h5 : p.depth ≤ 40) (h6 : q.depth ≤ 40) (e : PyData.eqv p q = b) (r : R (.bl (f b))) : pEqD f ρ x y R := by
  unfold pEqD
  rw [h1, h2]
  exact ⟨h3, h4, h5, h6, by rw [e]; exact r⟩
end

local macro_rules | `(tactic| walk_at "pp") => `(tactic| simp only [rho, List.map_cons, List.map_nil, List.length_cons, List.length_nil, Nat.reduceAdd, Nat.reduceSub, List.replicate_zero, List.replicate_succ, List.cons_append, List.nil_append, a_pSeq, a_pRet, a_pRetN, a_pNext, a_pIfS, a_pSet, a_pOwn, a_pDrop, a_pPar, a_pPar3, a_pApp, a_pSetI, a_pAsg, a_pNever, a_pV, a_pC, a_pOp, a_pUn, a_pCB, a_pNil, a_pCons, a_pTest, a_pAnd, a_pOr, a_pNot, a_pAndV, a_pOrV, a_pNotV, a_pIf, a_pTup, a_pLst, a_pCall, a_pKw, a_pBMs, a_pChain, a_pOrT, a_pNotT, a_pThen, a_pSl, a_pNoPart, a_pPart, a_pLc, a_pFor, a_piList, a_piTup, a_piStr, a_piRng1, a_piRng2, a_piZip, a_piEnum, a_pYes, bD, iD, sD, lD, tD, oD, ownD, cl, cls, rv, asL, a_p0I, a_pCI, a_pEq, a_pAddS, a_pCat, a_pCatT, a_pIxL, a_pIxT, a_pIxS, a_pNeg, a_pSlL, a_pSlT, a_pSlS, a_qLen, a_qInt, a_qAbs, a_qMax, a_qMin, a_qStrI, a_qIsi, a_qSum, a_qAll, a_qAny, a_qList, a_qTup, a_mJoin, tyD, clD, truD, okT, wd_lst, wd_fre, wd_tup, wd_str, a_pgName, pgTup, pgCons, pgNil, a_pgStar, kit_ss, kit_si, kit_sb, kit_st, kit_ii, kit_ib, kit_is, kit_it, kit_tt, kit_ts, kit_ti, kit_bi, kit_bb, kit_bs, kit_bt, Bool.not_true, Bool.not_false, if_false, reduceCtorEq, Nat.reduceLT, Int.reduceLE, Int.reduceLT, Int.reduceEq, decide_true, decide_false, wipeP, List.getElem?_cons_zero, List.getElem?_cons_succ, List.getElem?_nil, List.set_cons_zero, List.set_cons_succ, Option.map_some, if_true, Bool.false_eq_true, and_true, true_and, List.append_nil, a_qFn, at0, at1, at2, at3, a_pRet2, a_pRel, a_piRng3, a_pParO, eq_self, List.take_succ_cons, List.take_zero, List.drop_succ_cons, List.drop_zero, List.singleton_append, Nat.reduceLeDiff, Option.map_none, Option.toList_some, Option.toList_none, a_qMaxL, a_qRg1, a_piRg, a_pFld, a_qIsO, a_pProp, a_pRevT, a_pSlA, a_pMeth, a_pParSO, a_pAppPop, a_qListS, a_qSortS, Int.natAbs_natCast])
section
variable {P : Program} {w : World} {K : PySem.W.Frag} {mg : Str → Option Value} {base : Heap} {Z : Pv.Zc}
local macro_rules | `(tactic| walk_at "pp") => `(tactic| simp only [rho, List.map_cons, List.map_nil, List.length_cons, List.length_nil, Nat.reduceAdd, Nat.reduceSub, List.replicate_zero, List.replicate_succ, List.cons_append, List.nil_append, a_pSeq, a_pRet, a_pRetN, a_pNext, a_pIfS, a_pSet, a_pOwn, a_pDrop, a_pPar, a_pPar3, a_pApp, a_pSetI, a_pAsg, a_pNever, a_pV, a_pC, a_pOp, a_pUn, a_pCB, a_pNil, a_pCons, a_pTest, a_pAnd, a_pOr, a_pNot, a_pAndV, a_pOrV, a_pNotV, a_pIf, a_pTup, a_pLst, a_pCall, a_pKw, a_pBMs, a_pChain, a_pOrT, a_pNotT, a_pThen, a_pSl, a_pNoPart, a_pPart, a_pLc, a_pFor, a_piList, a_piTup, a_piStr, a_piRng1, a_piRng2, a_piZip, a_piEnum, a_pYes, bD, iD, sD, lD, tD, oD, ownD, cl, cls, rv, asL, a_p0I, a_pCI, a_pEq, a_pAddS, a_pCat, a_pCatT, a_pIxL, a_pIxT, a_pIxS, a_pNeg, a_pSlL, a_pSlT, a_pSlS, a_qLen, a_qInt, a_qAbs, a_qMax, a_qMin, a_qStrI, a_qIsi, a_qSum, a_qAll, a_qAny, a_qList, a_qTup, a_mJoin, tyD, clD, truD, okT, wd_lst, wd_fre, wd_tup, wd_str, a_pgName, pgTup, pgCons, pgNil, a_pgStar, kit_ss, kit_si, kit_sb, kit_st, kit_ii, kit_ib, kit_is, kit_it, kit_tt, kit_ts, kit_ti, kit_bi, kit_bb, kit_bs, kit_bt, Bool.not_true, Bool.not_false, if_false, reduceCtorEq, Nat.reduceLT, Int.reduceLE, Int.reduceLT, Int.reduceEq, decide_true, decide_false, wipeP, List.getElem?_cons_zero, List.getElem?_cons_succ, List.getElem?_nil, List.set_cons_zero, List.set_cons_succ, Option.map_some, if_true, Bool.false_eq_true, and_true, true_and, List.append_nil, a_qFn, at0, at1, at2, at3, a_pRet2, a_pRel, a_piRng3, a_pParO, eq_self, List.take_succ_cons, List.take_zero, List.drop_succ_cons, List.drop_zero, List.singleton_append, Nat.reduceLeDiff, Option.map_none, Option.toList_some, Option.toList_none, a_qMaxL, a_qRg1, a_piRg, a_pFld, a_qIsO, a_pProp, a_pRevT, a_pSlA, a_pMeth, a_pParSO, a_pAppPop, a_qListS, a_qSortS, Int.natAbs_natCast])
variable {p C : Addr}
theorem Rs.rv {K : PySem.W.Frag} {A : List Addr} {H : Hp} {ds : List Dt} {vs : List V} {m : Nat} (_ : ds.length = m) (r : Rs K A H ds vs) : Rs K A H ds.reverse vs.reverse := Rs.rvs r
structure FK (P : Program) (w : World) (K : PySem.W.Frag) (mg : Str → Option Value) (base : Heap) (Z : Pv.Zc) (x : Str) (k : Nat) (ps ks : List Str) (S : PSp) : Prop where
  ex : ∃ f fd, mg x = some (.ref f) ∧ PySem.W.keepIn K (.ref f) = true ∧ Binds K fd ps [] ∧ FnOk P w K mg base CX0 k f fd ps (spD K Z S) ∧ KBn K fd ps 0 ks (fun _ ws => ws.reverse) (fun _ zs => zs.reverse)
theorem let_of {n : Nat} {Q : Dt → Prop} (h2 : 2 ≤ n) (h6 : n ≤ 6) (q : ∀ z, CaseOk z → z.cps.toList.length = n → Q (.str z)) : S__law_letters p [.raw (.ref p), .int (n : Nat)] Q := ⟨n, rfl, h2, h6, q⟩
theorem wei_of {n : Nat} {Q : Dt → Prop} (h1 : 1 ≤ n) (h6 : n ≤ 6) (q : ∀ ws : List Nat, ws.length = n → (∀ w ∈ ws, w ≤ 20) → 0 < ws.sum → Q (.lst (natsD ws))) : S__law_weights p [.raw (.ref p), .int (n : Nat)] Q := ⟨n, rfl, h1, h6, q⟩
def S__law_right (p : Addr) : PSp := fun ds Q => ds = [kiD p] ∧ Q (.bl true)
end

local macro_rules | `(tactic| walk_at "side") => `(tactic| first
  | trivial | decide | (show (0 : Int) < _; decide) | omega | (left; constructor <;> omega) | (right; constructor <;> omega) | (refine ⟨?_, ?_, ?_⟩ <;> decide) | (refine ⟨?_, ?_⟩ <;> first | decide | omega))
local macro_rules | `(tactic| walk_at "rd1") => `(tactic| first
  | with_reducible refine bCons ?_
  | with_reducible refine bNil ?_
  | ((with_reducible refine bV (v := ?vv) ?hv ?_); (case hv => exact rfl))
  | with_reducible refine bC ?_
  | with_reducible refine bOp ?_
  | with_reducible refine bI0 ?_
  | ((with_reducible refine bI ?hc ?_); (case hc => walk_at "side"))
  | with_reducible refine bCB ?_
  | with_reducible refine bInt ?_
  | with_reducible refine bIntB ?_
  | with_reducible refine bTest ?_
  | with_reducible refine bB ?_
  | with_reducible refine bBl ?_
  | with_reducible refine bNot ?_
  | with_reducible refine bOr ?_
  | with_reducible refine bAnd ?_
  | with_reducible refine bIf ?_
  | with_reducible refine bTup ?_
  | with_reducible refine bLst ?_
  | with_reducible refine bUn ?_
  | with_reducible refine bSeq ?_
  | with_reducible refine bAsg ?_
  | with_reducible refine bName ?_
  | with_reducible refine bRet ?_
  | with_reducible refine bDrop ?_
  | with_reducible refine bIfS ?_
  | with_reducible refine bNext ?_
  | with_reducible refine bPar ?_
  | with_reducible refine bPar2 ?_
  | with_reducible refine bSub ?_
  | with_reducible refine bCall ?_
  | with_reducible refine bBM ?_)
local macro_rules | `(tactic| walk_at "rd") => `(tactic| repeat (walk_at "rd1"))


theorem sqL_same {K : PySem.W.Frag} {H H' : Hp} {a : Addr} {xs : List V} (s : Same H H') (h : SqL K H a xs) : SqL K H' a xs := by
  rcases h with h | h
  · rcases h with h | ⟨o, h⟩
    · exact .inl (.inl (s _ _ h))
    · exact .inl (.inr ⟨o, s _ _ h⟩)
  · exact .inr h
structure Df (K : PySem.W.Frag) (mg : Str → Option Value) (x : Str) (f : Addr) (fd : FuncData) (ps : List Str) : Prop where
  m : mg x = some (.ref f)
  k : PySem.W.keepIn K (.ref f) = true
  b : Binds K fd ps []
structure TxtL (mg : Str → Option Value) : Prop where
  all : mg "all" = none
  range : mg "range" = none
section
variable {P : Program} {w : World} {K : PySem.W.Frag} {mg : Str → Option Value} {base : Heap}
abbrev sLaw : Stmt := top 32
theorem scLaw : FnScope ["cells", "turn"] ["cells"] (defScope sLaw) := ⟨rfl, rfl, rfl, by decide +kernel, rfl, by decide +kernel, by decide +kernel⟩
def spLaw (K : PySem.W.Frag) : Sp := fun vs H Q _ => ∃ (a : Addr) (ns : List Int), vs = [.ref a] ∧ SqL K H a (ns.map V.int) ∧ ∀ H', Q (.bl true) H'
def spRight : Sp := fun vs H Q _ => ∃ p, vs = [.ref p] ∧ Kpt H p ∧ ∀ H', Oth p H H' → Q (.bl true) H'
theorem right_of {f : Addr} {fd : FuncData} (G : ∀ p, FnG P w K mg base CX0 9 f fd ["kiln"] (spD K (Zk p) (S__law_right p))) : FnG P w K mg base CX0 9 f fd ["kiln"] spRight := by
  have go : ∀ vs H Q E, spRight vs H Q E → ∃ p, spD K (Zk p) (S__law_right p) vs H Q E := fun vs H Q E h => by
    obtain ⟨p, rfl, ⟨mx, dg, h1, h2, h3, h4⟩, q⟩ := h
    refine ⟨p, [p], [kiD p], fun d => d = .bl true, ⟨fun b e => ?_, fun b e => ?_, fun b e => ?_⟩, .c (.w _) .n, ⟨rfl, rfl⟩, fun d v H' x r e => ?_⟩
    · cases e
      exact List.mem_singleton.mpr rfl
    · cases e
      exact ⟨[mx, dg], h1, mx, dg, rfl, h2, h3, h4⟩
    · rw [List.mem_singleton.mp e]
      exact ⟨_, h1⟩
    · subst e
      rw [r.bi]
      exact q H' fun b o n e => x.kp b o (fun z => n (by cases z; rfl)) e
  exact ⟨fun vs H Q E h => (by
    obtain ⟨p, h⟩ := go vs H Q E h
    exact (G p).len vs H Q E h), fun A outer s H args us vs Q E a1 a2 a3 a4 a5 h => by
    obtain ⟨p, h⟩ := go vs H Q E h
    exact (G p).run A outer s H args us vs Q E a1 a2 a3 a4 a5 h⟩
theorem ok_law {f fr fb : Addr} {fd fdr fdb : FuncData} (F : Fun K "law" "law" sLaw f fd) (T : TxtL mg) (Dr : Df K mg "_law_right" fr fdr ["kiln"]) (Gr : FnG P w K mg base CX0 9 fr fdr ["kiln"] spRight)
    (Db : Df K mg "_law_kiln" fb fdb ["cells", "turn"]) (Gb : FnOk P w K mg base CX0 1 fb fdb ["cells", "turn"] (spKiln K)) : FnG P w K mg base CX0 10 f fd ["cells"] (spLaw K) := by
  refine okG F scLaw (fun vs H Q E h => ?_) (fun cdv A outer s H vs Q E hg hr h => ?_)
  · obtain ⟨a, ns, rfl, _⟩ := h
    rfl
  · obtain ⟨a, ns, rfl, hS, q⟩ := h
    refine ⟨_, (pss_one (ps_ret (pe_callB (r := rAll K) (by exact cr_all rfl) (by rfl) T.all (by decide +kernel) (pa_cons (pe_lc (own := [("turn", 1)]) (wi := iRng1 (tCons (tC (.int 3)) tNil)) (g := gName 1) (tt := tYes) (te := tCB (fun vs H Q => spRight (vs ++ []) H Q E0) (tCons (tCall (spKiln K) [] E0 (tCons (tVar 0) (tCons (tVar 1) tNil))) tNil)) rfl scLaw.nd (pi_range1 rfl T.range (pa_cons pe_int pa_nil)) (blkOk_by (N := ["cells", "turn"]) (sc := defScope sLaw) (by decide +kernel)) (fun _ _ _ _ _ => pg_name (i := 1) scLaw.nd rfl (Or.inl rfl)) (fun _ _ _ _ _ => pts_nil) (fun _ _ _ _ _ => (pe_cf (Gr.callR hg hr Dr.b .nil) rfl Dr.m Dr.k (pa_cons (pe_call Gb (hr.mono (by decide)) rfl Db.m Db.k Db.b .nil pass0 (pa_cons (pv 0) (pa_cons (pv 1) pa_nil))) pa_nil)))) pa_nil)))), ?_⟩
    walk_at "rd"
    delta tLc iRng1
    refine bCons (bC (bNil ?_))
    refine ⟨3, rfl, by decide, by decide, fun D hD => ?_⟩
    refine lc_range (n := 3) (fun m H' => Same H H' ∧ H' D = some (.lst (List.replicate m (.bl true)))) ⟨same_new hD, upd_same⟩ ?_ ?_
    · rintro i H' hi ⟨s1, hx⟩
      refine ⟨rfl, ?_⟩
      delta tYes
      refine bIte (b := true) (fun _ => ?_) (fun z => nomatch z)
      walk_at "rd"
      refine ⟨a, ns, _, rfl, sqL_same s1 hS, by omega, by omega, fun H2 p s2 p0 kp => ?_⟩
      walk_at "rd"
      refine ⟨p, rfl, kp, fun H3 oo => ?_⟩
      have hpD : D ≠ p := fun z => by
        rw [← z, hx] at p0
        cases p0
      refine ⟨_, oo D _ hpD (s2 _ _ hx), by rw [List.length_replicate, sizeLine_eq]; omega, fun b o e => ?_, ?_⟩
      · have hbD : b ≠ D := ne_of_none e hD
        have e1 := s1 _ _ e
        have hbp : b ≠ p := ne_of_none e1 p0
        rw [upd_ne hbD]
        exact oo b _ hbp (s2 _ _ e1)
      · rw [upd_same, List.replicate_succ']
    · rintro H' ⟨s1, hx⟩
      refine bNil ?_
      refine ⟨D, [true, true, true], rfl, SqL.of hx, ?_⟩
      exact q H'
end

end Lw

set_option maxRecDepth 100000
set_option maxHeartbeats 4000000
namespace Lw
open PySem PySem.Spec PyProof.Rows L2 Xv Pv
local macro_rules | `(tactic| walk_at "pp") => `(tactic| simp only [rho, List.map_cons, List.map_nil, List.length_cons, List.length_nil, Nat.reduceAdd, Nat.reduceSub, List.replicate_zero, List.replicate_succ, List.cons_append, List.nil_append, a_pSeq, a_pRet, a_pRetN, a_pNext, a_pIfS, a_pSet, a_pOwn, a_pDrop, a_pPar, a_pPar3, a_pApp, a_pSetI, a_pAsg, a_pNever, a_pV, a_pC, a_pOp, a_pUn, a_pCB, a_pNil, a_pCons, a_pTest, a_pAnd, a_pOr, a_pNot, a_pAndV, a_pOrV, a_pNotV, a_pIf, a_pTup, a_pLst, a_pCall, a_pKw, a_pBMs, a_pChain, a_pOrT, a_pNotT, a_pThen, a_pSl, a_pNoPart, a_pPart, a_pLc, a_pFor, a_piList, a_piTup, a_piStr, a_piRng1, a_piRng2, a_piZip, a_piEnum, a_pYes, bD, iD, sD, lD, tD, oD, ownD, cl, cls, rv, asL, a_p0I, a_pCI, a_pEq, a_pAddS, a_pCat, a_pCatT, a_pIxL, a_pIxT, a_pIxS, a_pNeg, a_pSlL, a_pSlT, a_pSlS, a_qLen, a_qInt, a_qAbs, a_qMax, a_qMin, a_qStrI, a_qIsi, a_qSum, a_qAll, a_qAny, a_qList, a_qTup, a_mJoin, tyD, clD, truD, okT, wd_lst, wd_fre, wd_tup, wd_str, a_pgName, pgTup, pgCons, pgNil, a_pgStar, kit_ss, kit_si, kit_sb, kit_st, kit_ii, kit_ib, kit_is, kit_it, kit_tt, kit_ts, kit_ti, kit_bi, kit_bb, kit_bs, kit_bt, Bool.not_true, Bool.not_false, if_false, reduceCtorEq, Nat.reduceLT, Int.reduceLE, Int.reduceLT, Int.reduceEq, decide_true, decide_false, wipeP, List.getElem?_cons_zero, List.getElem?_cons_succ, List.getElem?_nil, List.set_cons_zero, List.set_cons_succ, Option.map_some, if_true, Bool.false_eq_true, and_true, true_and, List.append_nil, a_qFn, at0, at1, at2, at3, a_pRet2, a_pRel, a_piRng3, a_pParO, eq_self, List.take_succ_cons, List.take_zero, List.drop_succ_cons, List.drop_zero, List.singleton_append, Nat.reduceLeDiff, Option.map_none, Option.toList_some, Option.toList_none, a_qMaxL, a_qRg1, a_piRg, a_pFld, a_qIsO, a_pProp, a_pRevT, a_pSlA, a_pMeth, a_pParSO, a_pAppPop, a_qListS, a_qSortS, a_pSortSet, a_pRevT, Int.natAbs_natCast])
section
variable {P : Program} {w : World} {K : PySem.W.Frag} {mg : Str → Option Value} {base : Heap} {Z : Pv.Zc}
local macro_rules | `(tactic| walk_at "pp") => `(tactic| simp only [rho, List.map_cons, List.map_nil, List.length_cons, List.length_nil, Nat.reduceAdd, Nat.reduceSub, List.replicate_zero, List.replicate_succ, List.cons_append, List.nil_append, a_pSeq, a_pRet, a_pRetN, a_pNext, a_pIfS, a_pSet, a_pOwn, a_pDrop, a_pPar, a_pPar3, a_pApp, a_pSetI, a_pAsg, a_pNever, a_pV, a_pC, a_pOp, a_pUn, a_pCB, a_pNil, a_pCons, a_pTest, a_pAnd, a_pOr, a_pNot, a_pAndV, a_pOrV, a_pNotV, a_pIf, a_pTup, a_pLst, a_pCall, a_pKw, a_pBMs, a_pChain, a_pOrT, a_pNotT, a_pThen, a_pSl, a_pNoPart, a_pPart, a_pLc, a_pFor, a_piList, a_piTup, a_piStr, a_piRng1, a_piRng2, a_piZip, a_piEnum, a_pYes, bD, iD, sD, lD, tD, oD, ownD, cl, cls, rv, asL, a_p0I, a_pCI, a_pEq, a_pAddS, a_pCat, a_pCatT, a_pIxL, a_pIxT, a_pIxS, a_pNeg, a_pSlL, a_pSlT, a_pSlS, a_qLen, a_qInt, a_qAbs, a_qMax, a_qMin, a_qStrI, a_qIsi, a_qSum, a_qAll, a_qAny, a_qList, a_qTup, a_mJoin, tyD, clD, truD, okT, wd_lst, wd_fre, wd_tup, wd_str, a_pgName, pgTup, pgCons, pgNil, a_pgStar, kit_ss, kit_si, kit_sb, kit_st, kit_ii, kit_ib, kit_is, kit_it, kit_tt, kit_ts, kit_ti, kit_bi, kit_bb, kit_bs, kit_bt, Bool.not_true, Bool.not_false, if_false, reduceCtorEq, Nat.reduceLT, Int.reduceLE, Int.reduceLT, Int.reduceEq, decide_true, decide_false, wipeP, List.getElem?_cons_zero, List.getElem?_cons_succ, List.getElem?_nil, List.set_cons_zero, List.set_cons_succ, Option.map_some, if_true, Bool.false_eq_true, and_true, true_and, List.append_nil, a_qFn, at0, at1, at2, at3, a_pRet2, a_pRel, a_piRng3, a_pParO, eq_self, List.take_succ_cons, List.take_zero, List.drop_succ_cons, List.drop_zero, List.singleton_append, Nat.reduceLeDiff, Option.map_none, Option.toList_some, Option.toList_none, a_qMaxL, a_qRg1, a_piRg, a_pFld, a_qIsO, a_pProp, a_pRevT, a_pSlA, a_pMeth, a_pParSO, a_pAppPop, a_qListS, a_qSortS, a_pSortSet, a_pRevT, Int.natAbs_natCast])
def one (c : Nat) : Str := ⟨#[c]⟩
def lotsGo : List Nat → List Str → List Str
  | [], Ls => Ls
  | c :: cs, Ls => lotsGo cs (Ls ++ Ls.map fun l => l ++ one c)
theorem app_len (l : Str) (c : Nat) : (l ++ one c).length = l.length + 1 := by
  rw [len_cps, len_cps]
  show (l.cps ++ #[c]).toList.length = _
  rw [Array.toList_append, List.length_append]
  rfl
/-! ### lots_of -/
abbrev s_lots_of : Stmt := top 9
theorem sc_lots_of : FnScope ["cases", "lots", "case", "lot"] ["cases"] (defScope s_lots_of) := ⟨rfl, rfl, rfl, by decide +kernel, rfl, by decide +kernel, by decide +kernel⟩
def S_lots_of : PSp := fun ds Q => ∃ z : Str, ds = [.str z] ∧ CaseOk z ∧ z.cps.toList.length ≤ 5 ∧ ∀ ys : List Str, ys.Perm (lotsGo z.cps.toList [""]) → sortedS ys = true → Q (.lst (ys.map .str))
theorem h_lots_of {f : Addr} {fd : FuncData} (F : Fun K "lots_of" "lots_of" s_lots_of f fd) (m : mg "lots_of" = some (.ref f)) (B : Bn mg) (B_sorted : mg "sorted" = none) : Has P w K mg base Z "lots_of" 1 ["cases"] S_lots_of := by
  refine Has.of F m sc_lots_of (F.binds (fun _ _ _ _ _ _ us hl => match us, hl with | [_], _ => rfl)) (fun ds Q h => by obtain ⟨_, rfl, _⟩ := h; rfl) fun cdv A outer s H E hr => ?_
  refine ⟨_, _, (pss_cons (ps_set (i := 1) sc_lots_of.nd rfl (by first | exact Or.inl rfl | exact Or.inr rfl) (pe_lst (pa_cons pe_str pa_nil))) (pss_cons (ps_for PassesOwn.never rfl (pi_str (pv 0)) (pg_name (i := 2) sc_lots_of.nd rfl (by first | exact Or.inl rfl | exact Or.inr rfl)) (pss_one (ps_set (i := 1) sc_lots_of.nd rfl (by first | exact Or.inl rfl | exact Or.inr rfl) (pe_op op_cat (pv 1) (pe_lc (own := [("lot", 3)]) (wi := (iList K (tVar 1))) (g := (gName 3)) (tt := tYes) (te := (tOp zAddS (tVar 3) (tVar 2))) rfl sc_lots_of.nd (pi_list (pv 1)) (blkOk_by (N := ["cases", "lots", "case", "lot"]) (sc := defScope s_lots_of) (by decide +kernel)) (fun _ _ _ _ _ => (pg_name (i := 3) sc_lots_of.nd rfl (by first | exact Or.inl rfl | exact Or.inr rfl))) (fun _ _ _ _ _ => pts_nil) (fun _ _ _ _ _ => (pe_op o_addS (pv 3) (pv 2)))))))) (pss_one (ps_ret (pe_callB (r := rSortedS K) (by exact cr_sortedS) (by rfl) B_sorted (by decide +kernel) (pa_cons (pv 1) pa_nil)))))), (s_seq (s_set (s_lst (s_cons s_str s_nil))) (s_seq (s_for (s_iStr s_var) s_gName (s_set (s_op s_cat s_var (s_lc (s_iList s_var) s_gName s_yes (s_op k_addS s_var s_var) (by decide))))) (s_ret (s_cb q_sortS (s_cons s_var s_nil))))), fun ds Q h => ?_⟩
  obtain ⟨z, rfl, hz, h5, q⟩ := h
  show (pSeq _ _) _ [Sl.sh (.str z), .un, .un, .un]
  refine seq_step fun N hN => ?_
  walk_at "pp"
  refine ⟨by rw [sizeLine_eq]; omega, ?_⟩
  subst hN
  refine seq_step fun N hN => ?_
  walk_at "pp"
  refine for_inv sgn (fun rest ρ => ∃ (Ls : List Str) (a b : Sl), ρ = [Sl.sh (.str z), Sl.sh (.lst (Ls.map .str)), a, b] ∧ lotsGo rest Ls = lotsGo z.cps.toList [""] ∧ Ls.length * 2 ^ rest.length ≤ 32 ∧ ∀ l ∈ Ls, l.length + rest.length ≤ 5) (fun c rest ρ hi nx k => ?_) (fun ρ hi => ?_) _ _ ⟨[""], _, _, rfl, rfl, ?_, fun l hl => ?_⟩
  · obtain ⟨Ls, a, b, rfl, e, hl, hb⟩ := hi
    have l32 : Ls.length ≤ 32 := Nat.le_trans (Nat.le_mul_of_pos_right _ (Nat.pow_pos (by decide))) hl
    refine tgt_step fun M hM => ?_
    walk_at "pp"
    subst hM
    walk_at "pp"
    refine lc_map Dt.str (fun l => Dt.str (l ++ one c)) (fun l hl' Y S y => ?_) (by rw [List.length_nil]; omega) ?_
    · have := hb l hl'
      unfold turnC sgn
      walk_at "pp"
      refine ⟨?_, y⟩
      rw [sizeLine_eq]
      show l.length + 1 ≤ 16777216
      omega
    rw [List.nil_append]
    refine ⟨by rw [List.length_map, List.length_map, sizeLine_eq]; omega, k _ ⟨Ls ++ Ls.map (fun l => l ++ one c), Sl.sh (sgn c), b, ?_, ?_, ?_, fun l hl' => ?_⟩⟩
    · rw [List.map_append, List.map_map]
      rfl
    · exact e
    · rw [List.length_append, List.length_map]
      rw [List.length_cons, Nat.pow_succ] at hl
      rw [show (Ls.length + Ls.length) = Ls.length * 2 by omega, Nat.mul_assoc, Nat.mul_comm 2]
      exact hl
    · rcases List.mem_append.mp hl' with h | h
      · have := hb l h
        rw [List.length_cons] at this
        omega
      · obtain ⟨m, hm, rfl⟩ := List.mem_map.mp h
        have := hb m hm
        rw [List.length_cons] at this
        rw [app_len]
        omega
  · obtain ⟨Ls, a, b, rfl, e, hl, hb⟩ := hi
    show N _
    have e' : Ls = lotsGo z.cps.toList [""] := e
    have l32 : Ls.length ≤ 32 := Nat.le_trans (Nat.le_mul_of_pos_right _ (Nat.pow_pos (by decide))) hl
    subst hN
    walk_at "pp"
    rw [allS_strs]
    refine ⟨by omega, fun ys hp hs => ?_⟩
    rw [e'] at hp
    exact q ys hp hs
  · show 1 * 2 ^ z.cps.toList.length ≤ 32
    rw [Nat.one_mul]
    exact Nat.pow_le_pow_right (n := 2) (by decide) h5
  · rw [List.mem_singleton.mp hl]
    show 0 + _ ≤ 5
    omega
/-! ### _law_lots -/
abbrev s__law_lots : Stmt := top 23
theorem sc__law_lots : FnScope ["letters_here", "found", "letter", "lot"] ["letters_here"] (defScope s__law_lots) := ⟨rfl, rfl, rfl, by decide +kernel, rfl, by decide +kernel, by decide +kernel⟩
def S__law_lots : PSp := fun ds Q => ∃ z : Str, ds = [.str z] ∧ CaseOk z ∧ z.cps.toList.length ≤ 5 ∧ ∀ ys : List Str, ys.Perm (lotsGo z.cps.toList [""]) → sortedS ys = true → Q (.lst (ys.map .str))
theorem h__law_lots {f : Addr} {fd : FuncData} (F : Fun K "_law_lots" "_law_lots" s__law_lots f fd) (m : mg "_law_lots" = some (.ref f)) (B : Bn mg) (B_sorted : mg "sorted" = none) : Has P w K mg base Z "_law_lots" 1 ["letters_here"] S__law_lots := by
  refine Has.of F m sc__law_lots (F.binds (fun _ _ _ _ _ _ us hl => match us, hl with | [_], _ => rfl)) (fun ds Q h => by obtain ⟨_, rfl, _⟩ := h; rfl) fun cdv A outer s H E hr => ?_
  refine ⟨_, _, (pss_cons (ps_set (i := 1) sc__law_lots.nd rfl (by first | exact Or.inl rfl | exact Or.inr rfl) (pe_lst (pa_cons pe_str pa_nil))) (pss_cons (ps_for PassesOwn.never rfl (pi_str (pv 0)) (pg_name (i := 2) sc__law_lots.nd rfl (by first | exact Or.inl rfl | exact Or.inr rfl)) (pss_one (ps_set (i := 1) sc__law_lots.nd rfl (by first | exact Or.inl rfl | exact Or.inr rfl) (pe_op op_cat (pv 1) (pe_lc (own := [("lot", 3)]) (wi := (iList K (tVar 1))) (g := (gName 3)) (tt := tYes) (te := (tOp zAddS (tVar 3) (tVar 2))) rfl sc__law_lots.nd (pi_list (pv 1)) (blkOk_by (N := ["letters_here", "found", "letter", "lot"]) (sc := defScope s__law_lots) (by decide +kernel)) (fun _ _ _ _ _ => (pg_name (i := 3) sc__law_lots.nd rfl (by first | exact Or.inl rfl | exact Or.inr rfl))) (fun _ _ _ _ _ => pts_nil) (fun _ _ _ _ _ => (pe_op o_addS (pv 3) (pv 2)))))))) (pss_one (ps_ret (pe_callB (r := rSortedS K) (by exact cr_sortedS) (by rfl) B_sorted (by decide +kernel) (pa_cons (pv 1) pa_nil)))))), (s_seq (s_set (s_lst (s_cons s_str s_nil))) (s_seq (s_for (s_iStr s_var) s_gName (s_set (s_op s_cat s_var (s_lc (s_iList s_var) s_gName s_yes (s_op k_addS s_var s_var) (by decide))))) (s_ret (s_cb q_sortS (s_cons s_var s_nil))))), fun ds Q h => ?_⟩
  obtain ⟨z, rfl, hz, h5, q⟩ := h
  show (pSeq _ _) _ [Sl.sh (.str z), .un, .un, .un]
  refine seq_step fun N hN => ?_
  walk_at "pp"
  refine ⟨by rw [sizeLine_eq]; omega, ?_⟩
  subst hN
  refine seq_step fun N hN => ?_
  walk_at "pp"
  refine for_inv sgn (fun rest ρ => ∃ (Ls : List Str) (a b : Sl), ρ = [Sl.sh (.str z), Sl.sh (.lst (Ls.map .str)), a, b] ∧ lotsGo rest Ls = lotsGo z.cps.toList [""] ∧ Ls.length * 2 ^ rest.length ≤ 32 ∧ ∀ l ∈ Ls, l.length + rest.length ≤ 5) (fun c rest ρ hi nx k => ?_) (fun ρ hi => ?_) _ _ ⟨[""], _, _, rfl, rfl, ?_, fun l hl => ?_⟩
  · obtain ⟨Ls, a, b, rfl, e, hl, hb⟩ := hi
    have l32 : Ls.length ≤ 32 := Nat.le_trans (Nat.le_mul_of_pos_right _ (Nat.pow_pos (by decide))) hl
    refine tgt_step fun M hM => ?_
    walk_at "pp"
    subst hM
    walk_at "pp"
    refine lc_map Dt.str (fun l => Dt.str (l ++ one c)) (fun l hl' Y S y => ?_) (by rw [List.length_nil]; omega) ?_
    · have := hb l hl'
      unfold turnC sgn
      walk_at "pp"
      refine ⟨?_, y⟩
      rw [sizeLine_eq]
      show l.length + 1 ≤ 16777216
      omega
    rw [List.nil_append]
    refine ⟨by rw [List.length_map, List.length_map, sizeLine_eq]; omega, k _ ⟨Ls ++ Ls.map (fun l => l ++ one c), Sl.sh (sgn c), b, ?_, ?_, ?_, fun l hl' => ?_⟩⟩
    · rw [List.map_append, List.map_map]
      rfl
    · exact e
    · rw [List.length_append, List.length_map]
      rw [List.length_cons, Nat.pow_succ] at hl
      rw [show (Ls.length + Ls.length) = Ls.length * 2 by omega, Nat.mul_assoc, Nat.mul_comm 2]
      exact hl
    · rcases List.mem_append.mp hl' with h | h
      · have := hb l h
        rw [List.length_cons] at this
        omega
      · obtain ⟨m, hm, rfl⟩ := List.mem_map.mp h
        have := hb m hm
        rw [List.length_cons] at this
        rw [app_len]
        omega
  · obtain ⟨Ls, a, b, rfl, e, hl, hb⟩ := hi
    show N _
    have e' : Ls = lotsGo z.cps.toList [""] := e
    have l32 : Ls.length ≤ 32 := Nat.le_trans (Nat.le_mul_of_pos_right _ (Nat.pow_pos (by decide))) hl
    subst hN
    walk_at "pp"
    rw [allS_strs]
    refine ⟨by omega, fun ys hp hs => ?_⟩
    rw [e'] at hp
    exact q ys hp hs
  · show 1 * 2 ^ z.cps.toList.length ≤ 32
    rw [Nat.one_mul]
    exact Nat.pow_le_pow_right (n := 2) (by decide) h5
  · rw [List.mem_singleton.mp hl]
    show 0 + _ ≤ 5
    omega
end
end Lw

set_option maxRecDepth 100000
set_option maxHeartbeats 4000000
namespace Lw
open PySem PySem.Spec PyProof.Rows L2 Xv Pv
/-! ### texts in their order -/
theorem ltc_irr : ∀ a : List Nat, ltCps a a = false
  | [] => rfl
  | x :: a => by
    show (decide (x < x) || (x == x && ltCps a a)) = false
    rw [ltc_irr a]
    simp
theorem ltc_trans : ∀ a b c : List Nat, ltCps a b = true → ltCps b c = true → ltCps a c = true
  | [], [], _, h, _ => by cases h
  | [], y :: b, [], _, h => by cases h
  | [], y :: b, z :: c, _, _ => rfl
  | x :: a, [], _, h, _ => by cases h
  | x :: a, y :: b, [], _, h => by cases h
  | x :: a, y :: b, z :: c, h1, h2 => by
    have h1' : (decide (x < y) || (x == y && ltCps a b)) = true := h1
    have h2' : (decide (y < z) || (y == z && ltCps b c)) = true := h2
    show (decide (x < z) || (x == z && ltCps a c)) = true
    simp only [Bool.or_eq_true, decide_eq_true_eq, Bool.and_eq_true, beq_iff_eq] at h1' h2' ⊢
    rcases h1' with h | ⟨h, i⟩ <;> rcases h2' with g | ⟨g, j⟩
    · exact .inl (by omega)
    · exact .inl (by omega)
    · exact .inl (by omega)
    · exact .inr ⟨by omega, ltc_trans a b c i j⟩
theorem ltc_tot : ∀ a b : List Nat, ltCps a b = true ∨ a = b ∨ ltCps b a = true
  | [], [] => .inr (.inl rfl)
  | [], _ :: _ => .inl rfl
  | _ :: _, [] => .inr (.inr rfl)
  | x :: a, y :: b => by
    show (decide (x < y) || (x == y && ltCps a b)) = true ∨ _ ∨ (decide (y < x) || (y == x && ltCps b a)) = true
    simp only [Bool.or_eq_true, decide_eq_true_eq, Bool.and_eq_true, beq_iff_eq]
    rcases Nat.lt_trichotomy x y with h | h | h
    · exact .inl (.inl h)
    · subst h
      rcases ltc_tot a b with h | h | h
      · exact .inl (.inr ⟨rfl, h⟩)
      · subst h
        exact .inr (.inl rfl)
      · exact .inr (.inr (.inr ⟨rfl, h⟩))
    · exact .inr (.inr (.inl h))
theorem ltc_lex : ∀ a b : List Nat, ltCps a b = true → a < b
  | [], [], h => by cases h
  | [], y :: b, _ => List.nil_lt_cons _ _
  | x :: a, [], h => by cases h
  | x :: a, y :: b, h => by
    have h' : (decide (x < y) || (x == y && ltCps a b)) = true := h
    simp only [Bool.or_eq_true, decide_eq_true_eq, Bool.and_eq_true, beq_iff_eq] at h'
    rw [List.cons_lt_cons_iff]
    rcases h' with h | ⟨h, i⟩
    · exact .inl h
    · exact .inr ⟨h, ltc_lex a b i⟩
def sLt (a b : Str) : Prop := ltCps a.cps.toList b.cps.toList = true
theorem sLt_as (a b : Str) (h : sLt a b) : ¬ sLt b a := fun g => by
  have := ltc_trans _ _ _ h g
  rw [ltc_irr] at this
  cases this
theorem str_ext {a b : Str} (h : a.cps.toList = b.cps.toList) : a = b := by
  obtain ⟨⟨x⟩⟩ := a
  obtain ⟨⟨y⟩⟩ := b
  have h' : x = y := h
  rw [h']
theorem rise_le : ∀ (p : Str) (r : List Str), risingS p r = true → (p :: r).Pairwise fun a b => sLt a b ∨ a = b
  | p, [], _ => List.pairwise_singleton _ _
  | p, x :: r, h => by
    have h' : (!ltCps x.cps.toList p.cps.toList && risingS x r) = true := h
    rw [Bool.and_eq_true] at h'
    have ih := rise_le x r h'.2
    have hx : sLt p x ∨ p = x := by
      rcases ltc_tot p.cps.toList x.cps.toList with g | g | g
      · exact .inl g
      · exact .inr (str_ext g)
      · rw [g] at h'
        exact absurd h'.1 (by decide)
    refine List.pairwise_cons.mpr ⟨fun y hy => ?_, ih⟩
    rcases List.mem_cons.mp hy with e | e
    · rw [e]
      exact hx
    · have g := (List.pairwise_cons.mp ih).1 y e
      rcases hx with hx | hx
      · rcases g with g | g
        · exact .inl (ltc_trans _ _ _ hx g)
        · rw [← g]
          exact .inl hx
      · rw [hx]
        exact g
theorem sort_pw {L : List Str} (h : sortedS L = true) (nd : L.Nodup) : L.Pairwise sLt := by
  have le : L.Pairwise fun a b => sLt a b ∨ a = b := by
    cases L with
    | nil => exact .nil
    | cons x r => exact rise_le x r h
  exact (List.Pairwise.and le nd).imp fun ⟨h1, h2⟩ => h1.resolve_right h2
theorem pw_unique {α : Type} {r : α → α → Prop} (as : ∀ a b, r a b → ¬ r b a) : ∀ l1 l2 : List α, l1.Pairwise r → l2.Pairwise r → (∀ x, x ∈ l1 ↔ x ∈ l2) → l1 = l2
  | [], [], _, _, _ => rfl
  | [], b :: l2, _, _, h => by cases (h b).mpr List.mem_cons_self
  | a :: l1, [], _, _, h => by cases (h a).mp List.mem_cons_self
  | a :: l1, b :: l2, p1, p2, h => by
    have q1 := List.pairwise_cons.mp p1
    have q2 := List.pairwise_cons.mp p2
    have e : a = b := by
      rcases List.mem_cons.mp ((h a).mp List.mem_cons_self) with e | e
      · exact e
      · rcases List.mem_cons.mp ((h b).mpr List.mem_cons_self) with g | g
        · exact g.symm
        · exact absurd (q1.1 b g) (as _ _ (q2.1 a e))
    subst e
    congr 1
    refine pw_unique as l1 l2 q1.2 q2.2 fun x => ⟨fun hx => ?_, fun hx => ?_⟩
    · rcases List.mem_cons.mp ((h x).mp (List.mem_cons_of_mem _ hx)) with e | e
      · subst e
        exact absurd (q1.1 x hx) (fun z => as _ _ z z)
      · exact e
    · rcases List.mem_cons.mp ((h x).mpr (List.mem_cons_of_mem _ hx)) with e | e
      · subst e
        exact absurd (q2.1 x hx) (fun z => as _ _ z z)
      · exact e
/-! ### all lots -/
theorem app_cps (l : Str) (c : Nat) : (l ++ one c).cps.toList = l.cps.toList ++ [c] := by
  show (l.cps ++ #[c]).toList = _
  rw [Array.toList_append]
theorem lots_inv : ∀ (cs pre : List Nat) (Ls : List Str), (pre ++ cs).Nodup → Ls.Nodup → (∀ l ∈ Ls, l.cps.toList.Sublist pre) → (lotsGo cs Ls).Nodup ∧ (∀ l ∈ lotsGo cs Ls, l.cps.toList.Sublist (pre ++ cs)) ∧ (lotsGo cs Ls).length = Ls.length * 2 ^ cs.length
  | [], pre, Ls, _, nl, hs => ⟨nl, fun l hl => by rw [List.append_nil]; exact hs l hl, (Nat.mul_one _).symm⟩
  | c :: cs, pre, Ls, nd, nl, hs => by
    have nd' : ((pre ++ [c]) ++ cs).Nodup := by
      rw [List.append_assoc]
      exact nd
    have cp : c ∉ pre := fun hc => by
      have := (List.nodup_append.mp nd).2.2 c hc c List.mem_cons_self
      exact this rfl
    have nl' : (Ls ++ Ls.map fun l => l ++ one c).Nodup := by
      refine List.nodup_append.mpr ⟨nl, ?_, fun a ha b hb e => ?_⟩
      · refine (List.pairwise_map).mpr (nl.imp fun {a b} hab e => hab (str_ext ?_))
        have := congrArg (fun s : Str => s.cps.toList) e
        simp only [app_cps] at this
        exact List.append_cancel_right this
      · obtain ⟨m, hm, rfl⟩ := List.mem_map.mp hb
        have h1 := (hs a ha).subset (a := c) (by rw [e, app_cps]; simp)
        exact cp h1
    have hs' : ∀ l ∈ Ls ++ Ls.map (fun l => l ++ one c), l.cps.toList.Sublist (pre ++ [c]) := fun l hl => by
      rcases List.mem_append.mp hl with h | h
      · exact (hs l h).trans (List.sublist_append_left _ _)
      · obtain ⟨m, hm, rfl⟩ := List.mem_map.mp h
        rw [app_cps]
        exact (hs m hm).append (List.Sublist.refl _)
    obtain ⟨i1, i2, i3⟩ := lots_inv cs (pre ++ [c]) _ nd' nl' hs'
    refine ⟨i1, fun l hl => ?_, ?_⟩
    · have := i2 l hl
      rw [List.append_assoc] at this
      exact this
    · show (lotsGo cs (Ls ++ Ls.map fun l => l ++ one c)).length = _
      rw [i3, List.length_append, List.length_map, List.length_cons, Nat.pow_succ, show Ls.length + Ls.length = Ls.length * 2 by omega, Nat.mul_assoc, Nat.mul_comm 2]
structure LOK (z : Str) (L : List Str) : Prop where
  p : L.Perm (lotsGo z.cps.toList [""])
  s : sortedS L = true
  c : CaseOk z
  h : z.cps.toList.length ≤ 5
section
variable {z : Str} {L L' : List Str}
theorem LOK.inv (k : LOK z L) : L.Nodup ∧ (∀ l ∈ L, Part z l) ∧ L.length ≤ 32 ∧ L.Pairwise sLt := by
  obtain ⟨i1, i2, i3⟩ := lots_inv z.cps.toList [] [""] k.c.nd (by simp) (fun l hl => by rw [List.mem_singleton.mp hl]; exact List.Sublist.refl _)
  have nd := k.p.nodup_iff.mpr i1
  refine ⟨nd, fun l hl => i2 l (k.p.mem_iff.mp hl), ?_, sort_pw k.s nd⟩
  rw [k.p.length_eq, i3]
  show 1 * _ ≤ 32
  rw [Nat.one_mul]
  exact Nat.pow_le_pow_right (n := 2) (by decide) k.h
theorem LOK.eq (k : LOK z L) (k' : LOK z L') : L = L' :=
  pw_unique sLt_as L L' k.inv.2.2.2 k'.inv.2.2.2 fun x => by rw [k.p.mem_iff, k'.p.mem_iff]
end
/-! ### the order by numbers -/
def grpF (L : List Str) (f : Str → Nat) (t : Nat) : List Str := L.filter fun l => decide (f l = t)
def IsTs (L : List Str) (f : Str → Nat) (ts : List Nat) : Prop := ts.Pairwise (· < ·) ∧ ∀ t, t ∈ ts ↔ ∃ l ∈ L, f l = t
def ordF (L : List Str) (f : Str → Nat) (ts : List Nat) : List (List Str) := ts.map (grpF L f)
def Mono (L : List Str) (f g : Str → Nat) : Prop := ∀ l ∈ L, ∀ m ∈ L, (f l = f m → g l = g m) ∧ (f l < f m → g l < g m)
section
variable {L : List Str} {f g : Str → Nat} {ts us : List Nat}
theorem grp_ne (h : IsTs L f ts) {t : Nat} (ht : t ∈ ts) : ∃ l r, grpF L f t = l :: r ∧ l ∈ L ∧ f l = t := by
  obtain ⟨l, hl, e⟩ := (h.2 t).mp ht
  have hm : l ∈ grpF L f t := List.mem_filter.mpr ⟨hl, decide_eq_true e⟩
  cases hg : grpF L f t with
  | nil =>
    rw [hg] at hm
    cases hm
  | cons x r =>
    have hx : x ∈ grpF L f t := by
      rw [hg]
      exact List.mem_cons_self
    obtain ⟨h1, h2⟩ := List.mem_filter.mp hx
    exact ⟨x, r, rfl, h1, of_decide_eq_true h2⟩
def headF (L : List Str) (f : Str → Nat) (t : Nat) : Str := (grpF L f t).headD ""
theorem head_ok (h : IsTs L f ts) {t : Nat} (ht : t ∈ ts) : headF L f t ∈ L ∧ f (headF L f t) = t := by
  obtain ⟨l, r, e, h1, h2⟩ := grp_ne h ht
  unfold headF
  rw [e]
  exact ⟨h1, h2⟩
theorem mono_ord (h : IsTs L f ts) (h' : IsTs L g us) (m : Mono L f g) : ordF L g us = ordF L f ts := by
  have e : us = ts.map fun t => g (headF L f t) := by
    refine pw_unique (r := (· < ·)) (fun a b h1 h2 => by omega) _ _ h'.1 ?_ fun x => ?_
    · refine List.pairwise_map.mpr ?_
      refine List.Pairwise.imp_of_mem (fun {a b} ha hb hab => ?_) h.1
      obtain ⟨a1, a2⟩ := head_ok h ha
      obtain ⟨b1, b2⟩ := head_ok h hb
      exact (m _ a1 _ b1).2 (by omega)
    · rw [h'.2 x]
      constructor
      · rintro ⟨l, hl, rfl⟩
        have ht : f l ∈ ts := (h.2 _).mpr ⟨l, hl, rfl⟩
        obtain ⟨a1, a2⟩ := head_ok h ht
        exact List.mem_map.mpr ⟨f l, ht, (m _ a1 _ hl).1 a2⟩
      · intro hx
        obtain ⟨t, ht, rfl⟩ := List.mem_map.mp hx
        exact ⟨_, (head_ok h ht).1, rfl⟩
  unfold ordF
  rw [e, List.map_map]
  refine List.map_congr_left fun t ht => ?_
  obtain ⟨a1, a2⟩ := head_ok h ht
  show L.filter _ = L.filter _
  refine List.filter_congr fun l hl => ?_
  have key : g l = g (headF L f t) ↔ f l = t := by
    constructor
    · intro e
      rcases Nat.lt_trichotomy (f l) t with q | q | q
      · have := (m _ hl _ a1).2 (by omega)
        omega
      · exact q
      · have := (m _ a1 _ hl).2 (by omega)
        omega
    · intro e
      exact (m _ hl _ a1).1 (by omega)
  simp only [key]
theorem ord_mono (h : IsTs L f ts) (h' : IsTs L g us) (e : ordF L g us = ordF L f ts) : Mono L f g := by
  have len : us.length = ts.length := by
    have := congrArg List.length e
    unfold ordF at this
    rw [List.length_map, List.length_map] at this
    exact this
  have at_ : ∀ l ∈ L, ∃ (i : Nat) (h1 : i < ts.length) (h2 : i < us.length), f l = ts[i] ∧ g l = us[i] := fun l hl => by
    have ht : f l ∈ ts := (h.2 _).mpr ⟨l, hl, rfl⟩
    obtain ⟨i, hi, ei⟩ := List.getElem_of_mem ht
    refine ⟨i, hi, by omega, ei.symm, ?_⟩
    have e1 : (ordF L f ts)[i]'(by unfold ordF; rw [List.length_map]; exact hi) = grpF L f ts[i] := by
      unfold ordF
      rw [List.getElem_map]
    have e2 : (ordF L g us)[i]'(by unfold ordF; rw [List.length_map]; omega) = grpF L g (us[i]'(by omega)) := by
      unfold ordF
      rw [List.getElem_map]
    have e3 : grpF L g (us[i]'(by omega)) = grpF L f ts[i] := by
      rw [← e1, ← e2]
      simp only [e]
    have hm : l ∈ grpF L f ts[i] := List.mem_filter.mpr ⟨hl, decide_eq_true ei.symm⟩
    rw [← e3] at hm
    exact of_decide_eq_true (List.mem_filter.mp hm).2
  have up := List.pairwise_iff_getElem.mp h.1
  have up' := List.pairwise_iff_getElem.mp h'.1
  intro l hl m hm
  obtain ⟨i, i1, i2, i3, i4⟩ := at_ l hl
  obtain ⟨j, j1, j2, j3, j4⟩ := at_ m hm
  rcases Nat.lt_trichotomy i j with q | q | q
  · have a := up i j i1 j1 q
    have b := up' i j i2 j2 q
    exact ⟨fun e => by omega, fun _ => by omega⟩
  · subst q
    exact ⟨fun _ => by omega, fun e => by omega⟩
  · have a := up j i j1 i1 q
    have b := up' j i j2 i2 q
    exact ⟨fun e => by omega, fun e => by omega⟩
/-! ### the sayings of an order -/
def withinF (gs : List (List Str)) : List Say := gs.flatMap fun g => (g.drop 1).map fun l => ⟨"same", g.headD "", l, none⟩
def betweenF (gs : List (List Str)) : List Say := (gs.zip (gs.drop 1)).map fun p => ⟨"more", p.2.headD "", p.1.headD "", none⟩
def Hs (g : Str → Nat) (s : Say) : Prop := if s.w = "more" then g s.b < g s.a else g s.a = g s.b
theorem chain_pw {α : Type} {r : α → α → Prop} (tr : ∀ a b c, r a b → r b c → r a c) : ∀ l : List α, (∀ p ∈ l.zip (l.drop 1), r p.1 p.2) → l.Pairwise r
  | [], _ => .nil
  | [a], _ => List.pairwise_singleton _ _
  | a :: b :: l, h => by
    have h1 : r a b := h (a, b) List.mem_cons_self
    have ih := chain_pw tr (b :: l) fun p hp => h p (List.mem_cons_of_mem _ hp)
    refine List.pairwise_cons.mpr ⟨fun x hx => ?_, ih⟩
    rcases List.mem_cons.mp hx with e | e
    · rw [e]
      exact h1
    · exact tr _ _ _ h1 ((List.pairwise_cons.mp ih).1 x e)
theorem pw_chain {α : Type} {r : α → α → Prop} : ∀ l : List α, l.Pairwise r → ∀ p ∈ l.zip (l.drop 1), r p.1 p.2
  | [], _, p, h => by cases h
  | [a], _, p, h => by cases h
  | a :: b :: l, pw, p, h => by
    have q := List.pairwise_cons.mp pw
    rcases List.mem_cons.mp h with e | e
    · rw [e]
      exact q.1 b List.mem_cons_self
    · exact pw_chain (b :: l) q.2 p e
theorem zip_map2 {α β : Type} (k : α → β) (l : List α) : (l.map k).zip ((l.map k).drop 1) = (l.zip (l.drop 1)).map fun p => (k p.1, k p.2) := by
  rw [← List.map_drop, List.zip_map]
  rfl
theorem says_mono (h : IsTs L f ts) : (∀ s ∈ withinF (ordF L f ts) ++ betweenF (ordF L f ts), Hs g s) ↔ Mono L f g := by
  have ms : ("more" : Str) = "more" := rfl
  have ss : ¬ (("same" : Str) = "more") := by decide +kernel
  constructor
  · intro hs
    have same : ∀ l ∈ L, g (headF L f (f l)) = g l := fun l hl => by
      have ht : f l ∈ ts := (h.2 _).mpr ⟨l, hl, rfl⟩
      obtain ⟨x, r, e, _, _⟩ := grp_ne h ht
      have hm : l ∈ grpF L f (f l) := List.mem_filter.mpr ⟨hl, decide_eq_true rfl⟩
      unfold headF
      rw [e] at hm ⊢
      rcases List.mem_cons.mp hm with q | q
      · rw [q]
        rfl
      · have hw : (⟨"same", x, l, none⟩ : Say) ∈ withinF (ordF L f ts) := by
          refine List.mem_flatMap.mpr ⟨grpF L f (f l), List.mem_map.mpr ⟨_, ht, rfl⟩, ?_⟩
          rw [e]
          exact List.mem_map.mpr ⟨l, q, rfl⟩
        have := hs _ (List.mem_append_left _ hw)
        unfold Hs at this
        rw [if_neg ss] at this
        exact this
    have heads : ts.Pairwise fun a b => g (headF L f a) < g (headF L f b) := by
      refine chain_pw (r := fun a b => g (headF L f a) < g (headF L f b)) (fun a b c h1 h2 => Nat.lt_trans h1 h2) ts fun p hp => ?_
      have hw : (⟨"more", headF L f p.2, headF L f p.1, none⟩ : Say) ∈ betweenF (ordF L f ts) := by
        unfold betweenF ordF
        rw [zip_map2, List.map_map]
        exact List.mem_map.mpr ⟨p, hp, rfl⟩
      have := hs _ (List.mem_append_right _ hw)
      unfold Hs at this
      rw [if_pos ms] at this
      exact this
    intro l hl m hm
    have sl := same l hl
    have sm := same m hm
    refine ⟨fun e => by rw [← sl, ← sm, e], fun lt => ?_⟩
    have tl : f l ∈ ts := (h.2 _).mpr ⟨l, hl, rfl⟩
    have tm : f m ∈ ts := (h.2 _).mpr ⟨m, hm, rfl⟩
    rw [← sl, ← sm]
    obtain ⟨i, hi, ei⟩ := List.getElem_of_mem tl
    obtain ⟨j, hj, ej⟩ := List.getElem_of_mem tm
    have up := List.pairwise_iff_getElem.mp h.1
    have uh := List.pairwise_iff_getElem.mp heads
    rcases Nat.lt_trichotomy i j with q | q | q
    · have := uh i j hi hj q
      rw [ei, ej] at this
      exact this
    · subst q
      omega
    · have := up j i hj hi q
      omega
  · intro m s hs
    unfold Hs
    rcases List.mem_append.mp hs with q | q
    · obtain ⟨gg, hg, q⟩ := List.mem_flatMap.mp q
      obtain ⟨t, ht, rfl⟩ := List.mem_map.mp hg
      obtain ⟨l, hl, rfl⟩ := List.mem_map.mp q
      rw [if_neg ss]
      have hl' : l ∈ grpF L f t := List.mem_of_mem_drop hl
      obtain ⟨l1, l2⟩ := List.mem_filter.mp hl'
      obtain ⟨a1, a2⟩ := head_ok h ht
      have l2' := of_decide_eq_true l2
      exact (m _ a1 _ l1).1 (by omega)
    · unfold betweenF ordF at q
      rw [zip_map2, List.map_map] at q
      obtain ⟨p, hp, rfl⟩ := List.mem_map.mp q
      have lt : p.1 < p.2 := pw_chain ts h.1 p hp
      have hp1 : p.1 ∈ ts := (List.of_mem_zip hp).1
      have hp2 : p.2 ∈ ts := List.mem_of_mem_drop (List.of_mem_zip hp).2
      obtain ⟨a1, a2⟩ := head_ok h hp1
      obtain ⟨b1, b2⟩ := head_ok h hp2
      show if ("more" : Str) = "more" then g (headF L f p.1) < g (headF L f p.2) else _
      rw [if_pos ms]
      exact (m _ a1 _ b1).2 (by omega)
theorem says_ord (h : IsTs L f ts) (h' : IsTs L g us) : (∀ s ∈ withinF (ordF L f ts) ++ betweenF (ordF L f ts), Hs g s) ↔ ordF L g us = ordF L f ts :=
  (says_mono h).trans ⟨mono_ord h h', ord_mono h h'⟩
end
end Lw

set_option maxRecDepth 100000
set_option maxHeartbeats 4000000
namespace Lw
open PySem PySem.Spec PyProof.Rows L2 Xv Pv
/-! ### what a saying with no times weighs -/
theorem intL_cons (n : Nat) (ns : List Nat) : intL (n :: ns) = (n : Int) :: intL ns := rfl
theorem lots_diff (w a b : Str) : ∀ (cs ws : List Nat), ((((cs.map (leanI ⟨w, a, b, none⟩)).zip (intL ws)).map fun p => p.1 * p.2).sum : Int) =
    ((((cs.zip ws).filter fun p => decide (p.1 ∈ a.cps.toList)).map fun p => p.2).sum : Nat) - ((((cs.zip ws).filter fun p => decide (p.1 ∈ b.cps.toList)).map fun p => p.2).sum : Nat)
  | [], _ => rfl
  | c :: cs, [] => rfl
  | c :: cs, n :: ws => by
    have ih := lots_diff w a b cs ws
    rw [intL_cons, List.map_cons, List.zip_cons_cons, List.map_cons, List.sum_cons, ih, List.zip_cons_cons, List.filter_cons, List.filter_cons]
    have e : leanI ⟨w, a, b, none⟩ c = (if c ∈ a.cps.toList then 1 else 0) - (if c ∈ b.cps.toList then 1 else 0) := rfl
    simp only [e]
    by_cases h1 : c ∈ a.cps.toList <;> by_cases h2 : c ∈ b.cps.toList <;> simp only [h1, h2, decide_true, decide_false, if_true, if_false, List.map_cons, List.sum_cons, Bool.false_eq_true] <;> omega
theorem found_lots (z w a b : Str) (ws : List Nat) : foundF z ⟨w, a, b, none⟩ (intL ws) = (lotN z a ws : Nat) - (lotN z b ws : Nat) := lots_diff w a b _ _
theorem holds_Hs {z : Str} {ws : List Nat} {s : Say} (hw : s.w = "more" ∨ s.w = "same") (hn : s.n = none) : holdsF z s (intL ws) = true ↔ Hs (fun y => lotN z y ws) s := by
  obtain ⟨w, a, b, n⟩ := s
  have hn' : n = none := hn
  subst hn'
  have hw' : w = "more" ∨ w = "same" := hw
  have ss : ¬ (("same" : Str) = "more") := by decide +kernel
  unfold holdsF Hs
  rw [found_lots]
  rcases hw' with rfl | rfl
  · show (if ("more" : Str) = "more" then _ else _) = true ↔ if ("more" : Str) = "more" then _ else _
    rw [if_pos rfl, if_pos rfl, decide_eq_true_iff]
    show _ ↔ lotN z b ws < lotN z a ws
    omega
  · show (if ("same" : Str) = "more" then _ else if ("same" : Str) = "same" then _ else _) = true ↔ if ("same" : Str) = "more" then _ else _
    rw [if_neg ss, if_neg ss, if_pos rfl, decide_eq_true_iff]
    show _ ↔ lotN z a ws = lotN z b ws
    omega
/-! ### orders as plain things -/
def grpD (g : List Str) : Dt := .tup (g.map .str)
def ordD (gs : List (List Str)) : Dt := .tup (gs.map grpD)
def grpP (g : List Str) : PyData := .tuple (g.map .str)
def ordP (gs : List (List Str)) : PyData := .tuple (gs.map grpP)
theorem pd_grp (g : List Str) : pd (grpD g) = some (grpP g) := by
  show (pds (g.map .str)).map PyData.tuple = _
  rw [pds_strs]
  rfl
theorem pds_grps : ∀ gs : List (List Str), pds (gs.map grpD) = some (gs.map grpP)
  | [] => rfl
  | g :: gs => by
    rw [List.map_cons, List.map_cons]
    unfold pds
    rw [pd_grp g, pds_grps gs]
theorem pd_ord (gs : List (List Str)) : pd (ordD gs) = some (ordP gs) := by
  show (pds (gs.map grpD)).map PyData.tuple = _
  rw [pds_grps]
  rfl
theorem str_beq (a b : Str) : (a == b) = decide (a = b) := by
  by_cases h : a = b
  · subst h
    simp
  · rw [decide_eq_false h]
    simpa using h
theorem eqv_strs : ∀ a b : List Str, PyData.eqvAll (a.map .str) (b.map .str) = decide (a = b)
  | [], [] => rfl
  | [], _ :: _ => rfl
  | _ :: _, [] => rfl
  | x :: a, y :: b => by
    show ((x == y) && PyData.eqvAll (a.map .str) (b.map .str)) = _
    rw [eqv_strs a b, str_beq]
    simp only [List.cons.injEq, Bool.decide_and]
theorem eqv_grps : ∀ a b : List (List Str), PyData.eqvAll (a.map grpP) (b.map grpP) = decide (a = b)
  | [], [] => rfl
  | [], _ :: _ => rfl
  | _ :: _, [] => rfl
  | x :: a, y :: b => by
    show (PyData.eqvAll (x.map .str) (y.map .str) && PyData.eqvAll (a.map grpP) (b.map grpP)) = _
    rw [eqv_strs, eqv_grps a b]
    simp only [List.cons.injEq, Bool.decide_and]
theorem eqv_ord (a b : List (List Str)) : PyData.eqv (ordP a) (ordP b) = decide (a = b) := eqv_grps a b
theorem lay_strs : ∀ g : List Str, (∀ l ∈ g, PyData.strOk l = true) → PyData.canLayAll0 (g.map .str) = true
  | [], _ => rfl
  | l :: g, h => by
    show (PyData.strOk l && PyData.canLayAll0 (g.map .str)) = true
    rw [h l List.mem_cons_self, lay_strs g fun x hx => h x (List.mem_cons_of_mem _ hx)]
    rfl
theorem lay_grps : ∀ gs : List (List Str), (∀ g ∈ gs, ∀ l ∈ g, PyData.strOk l = true) → PyData.canLayAll0 (gs.map grpP) = true
  | [], _ => rfl
  | g :: gs, h => by
    show (PyData.canLayAll0 (g.map .str) && PyData.canLayAll0 (gs.map grpP)) = true
    rw [lay_strs g (h g List.mem_cons_self), lay_grps gs fun x hx => h x (List.mem_cons_of_mem _ hx)]
    rfl
theorem dep_strs : ∀ g : List Str, PyData.depthAll (g.map .str) = 0
  | [] => rfl
  | l :: g => by
    show max 0 (PyData.depthAll (g.map .str)) = 0
    rw [dep_strs g]
    rfl
theorem dep_grps : ∀ gs : List (List Str), PyData.depthAll (gs.map grpP) ≤ 1
  | [] => Nat.zero_le _
  | g :: gs => by
    show max (PyData.depthAll (g.map .str) + 1) (PyData.depthAll (gs.map grpP)) ≤ 1
    have := dep_grps gs
    rw [dep_strs g]
    omega
theorem dep_ord (gs : List (List Str)) : (ordP gs).depth ≤ 40 := by
  show PyData.depthAll (gs.map grpP) + 1 ≤ 40
  have := dep_grps gs
  omega
theorem part_ok {z l : Str} (hz : CaseOk z) (h : Part z l) : PyData.strOk l = true := ok_sub h (ok_sub hz.p ok_abc)
/-- the order is one of the lots of z -/
structure OrdOk (z : Str) (gs : List (List Str)) : Prop where
  c : CaseOk z
  h : z.cps.toList.length ≤ 5
  p : gs.flatten.Perm (lotsGo z.cps.toList [""])
  g : ∀ g ∈ gs, g ≠ [] ∧ g.Pairwise sLt
section
variable {z : Str} {L : List Str} {gs : List (List Str)} {f : Str → Nat} {ts : List Nat}
theorem OrdOk.inv (k : OrdOk z gs) : (∀ g ∈ gs, ∀ l ∈ g, Part z l) ∧ gs.flatten.length ≤ 32 := by
  obtain ⟨_, i2, i3⟩ := lots_inv z.cps.toList [] [""] k.c.nd (by simp) (fun l hl => by rw [List.mem_singleton.mp hl]; exact List.Sublist.refl _)
  refine ⟨fun g hg l hl => i2 l (k.p.mem_iff.mp (List.mem_flatten.mpr ⟨g, hg, hl⟩)), ?_⟩
  rw [k.p.length_eq, i3]
  show 1 * _ ≤ 32
  rw [Nat.one_mul]
  exact Nat.pow_le_pow_right (n := 2) (by decide) k.h
theorem len_flat : ∀ gs : List (List Str), (∀ g ∈ gs, g ≠ []) → gs.length ≤ gs.flatten.length
  | [], _ => Nat.le_refl _
  | g :: gs, h => by
    have ih := len_flat gs fun x hx => h x (List.mem_cons_of_mem _ hx)
    have h0 : 0 < g.length := List.length_pos_iff.mpr (h g List.mem_cons_self)
    rw [List.flatten_cons, List.length_append, List.length_cons]
    omega
theorem grp_len {g : List Str} : ∀ {gs : List (List Str)}, g ∈ gs → g.length ≤ gs.flatten.length
  | [], h => by cases h
  | x :: gs, h => by
    rw [List.flatten_cons, List.length_append]
    rcases List.mem_cons.mp h with e | e
    · rw [e]
      omega
    · have := grp_len e
      omega
theorem OrdOk.len (k : OrdOk z gs) : gs.length ≤ 32 := Nat.le_trans (len_flat gs fun g hg => (k.g g hg).1) k.inv.2
theorem OrdOk.glen (k : OrdOk z gs) {g : List Str} (hg : g ∈ gs) : g.length ≤ 32 := Nat.le_trans (grp_len hg) k.inv.2
theorem OrdOk.lay (k : OrdOk z gs) : (ordP gs).canLay0 = true := lay_grps gs fun g hg l hl => part_ok k.c (k.inv.1 g hg l hl)
theorem ord_flat (k : LOK z L) (h : IsTs L f ts) : (ordF L f ts).flatten.Perm L := by
  refine (List.perm_ext_iff_of_nodup ?_ k.inv.1).mpr fun l => ?_
  · unfold List.Nodup ordF
    rw [List.pairwise_flatten]
    refine ⟨fun g hg => ?_, ?_⟩
    · obtain ⟨t, ht, rfl⟩ := List.mem_map.mp hg
      exact List.Pairwise.sublist List.filter_sublist k.inv.1
    · rw [List.pairwise_map]
      refine h.1.imp fun {a b} lt x hx y hy e => ?_
      have h1 := of_decide_eq_true (List.mem_filter.mp hx).2
      have h2 := of_decide_eq_true (List.mem_filter.mp hy).2
      rw [e] at h1
      omega
  · constructor
    · intro hl
      obtain ⟨g, hg, hl⟩ := List.mem_flatten.mp hl
      obtain ⟨t, ht, rfl⟩ := List.mem_map.mp hg
      exact (List.mem_filter.mp hl).1
    · intro hl
      exact List.mem_flatten.mpr ⟨grpF L f (f l), List.mem_map.mpr ⟨_, (h.2 _).mpr ⟨l, hl, rfl⟩, rfl⟩, List.mem_filter.mpr ⟨hl, decide_eq_true rfl⟩⟩
theorem ord_ok (k : LOK z L) (h : IsTs L f ts) : OrdOk z (ordF L f ts) where
  c := k.c
  h := k.h
  p := (ord_flat k h).trans k.p
  g := fun g hg => by
    obtain ⟨t, ht, rfl⟩ := List.mem_map.mp hg
    obtain ⟨l, r, e, _⟩ := grp_ne h ht
    exact ⟨by rw [e]; exact List.cons_ne_nil _ _, List.Pairwise.sublist List.filter_sublist k.inv.2.2.2⟩
theorem head_mem {g : List Str} (h : g ≠ []) : g.headD "" ∈ g := by
  cases g with
  | nil => exact absurd rfl h
  | cons x r => exact List.mem_cons_self
theorem within_len : ∀ gs : List (List Str), (withinF gs).length ≤ gs.flatten.length
  | [] => Nat.le_refl _
  | g :: gs => by
    have ih := within_len gs
    show (List.map _ _ ++ withinF gs).length ≤ _
    rw [List.length_append, List.length_map, List.length_drop, List.flatten_cons, List.length_append]
    omega
theorem between_len (gs : List (List Str)) : (betweenF gs).length ≤ gs.length := by
  unfold betweenF
  rw [List.length_map, List.length_zip]
  omega
/-- what the sayings of an order are -/
theorem OrdOk.says (k : OrdOk z gs) : ∀ s ∈ withinF gs ++ betweenF gs, (s.w = "more" ∨ s.w = "same") ∧ s.n = none ∧ s.a ∈ lotsGo z.cps.toList [""] ∧ s.b ∈ lotsGo z.cps.toList [""] := by
  have inn : ∀ g ∈ gs, ∀ l ∈ g, l ∈ lotsGo z.cps.toList [""] := fun g hg l hl => k.p.mem_iff.mp (List.mem_flatten.mpr ⟨g, hg, hl⟩)
  intro s hs
  rcases List.mem_append.mp hs with q | q
  · obtain ⟨g, hg, q⟩ := List.mem_flatMap.mp q
    obtain ⟨l, hl, rfl⟩ := List.mem_map.mp q
    exact ⟨.inr rfl, rfl, inn g hg _ (head_mem (k.g g hg).1), inn g hg _ (List.mem_of_mem_drop hl)⟩
  · obtain ⟨p, hp, rfl⟩ := List.mem_map.mp q
    have h1 := (List.of_mem_zip hp).1
    have h2 := List.mem_of_mem_drop (List.of_mem_zip hp).2
    exact ⟨.inl rfl, rfl, inn _ h2 _ (head_mem (k.g _ h2).1), inn _ h1 _ (head_mem (k.g _ h1).1)⟩
theorem OrdOk.sok (k : OrdOk z gs) {s : Say} (hs : s ∈ withinF gs ++ betweenF gs) : SayOk z s := by
  obtain ⟨_, i2, _⟩ := lots_inv z.cps.toList [] [""] k.c.nd (by simp) (fun l hl => by rw [List.mem_singleton.mp hl]; exact List.Sublist.refl _)
  obtain ⟨h1, h2, h3, h4⟩ := k.says s hs
  refine ⟨i2 _ h3, i2 _ h4, .inl ⟨?_, h2⟩⟩
  rcases h1 with h | h
  · exact .inl h
  · exact .inr (.inr h)
end
end Lw

set_option maxRecDepth 100000
set_option maxHeartbeats 4000000
namespace Lw
open PySem PySem.Spec PyProof.Rows L2 Xv Pv
local macro_rules | `(tactic| walk_at "pp") => `(tactic| simp only [rho, List.map_cons, List.map_nil, List.length_cons, List.length_nil, Nat.reduceAdd, Nat.reduceSub, List.replicate_zero, List.replicate_succ, List.cons_append, List.nil_append, a_pSeq, a_pRet, a_pRetN, a_pNext, a_pIfS, a_pSet, a_pOwn, a_pDrop, a_pPar, a_pPar3, a_pApp, a_pSetI, a_pAsg, a_pNever, a_pV, a_pC, a_pOp, a_pUn, a_pCB, a_pNil, a_pCons, a_pTest, a_pAnd, a_pOr, a_pNot, a_pAndV, a_pOrV, a_pNotV, a_pIf, a_pTup, a_pLst, a_pCall, a_pKw, a_pBMs, a_pChain, a_pOrT, a_pNotT, a_pThen, a_pSl, a_pNoPart, a_pPart, a_pLc, a_pFor, a_piList, a_piTup, a_piStr, a_piRng1, a_piRng2, a_piZip, a_piEnum, a_pYes, bD, iD, sD, lD, tD, oD, ownD, cl, cls, rv, asL, a_p0I, a_pCI, a_pEq, a_pAddS, a_pCat, a_pCatT, a_pIxL, a_pIxT, a_pIxS, a_pNeg, a_pSlL, a_pSlT, a_pSlS, a_qLen, a_qInt, a_qAbs, a_qMax, a_qMin, a_qStrI, a_qIsi, a_qSum, a_qAll, a_qAny, a_qList, a_qTup, a_mJoin, tyD, clD, truD, okT, wd_lst, wd_fre, wd_tup, wd_str, a_pgName, pgTup, pgCons, pgNil, a_pgStar, kit_ss, kit_si, kit_sb, kit_st, kit_ii, kit_ib, kit_is, kit_it, kit_tt, kit_ts, kit_ti, kit_bi, kit_bb, kit_bs, kit_bt, Bool.not_true, Bool.not_false, if_false, reduceCtorEq, Nat.reduceLT, Int.reduceLE, Int.reduceLT, Int.reduceEq, decide_true, decide_false, wipeP, List.getElem?_cons_zero, List.getElem?_cons_succ, List.getElem?_nil, List.set_cons_zero, List.set_cons_succ, Option.map_some, if_true, Bool.false_eq_true, and_true, true_and, List.append_nil, a_qFn, at0, at1, at2, at3, a_pRet2, a_pRel, a_piRng3, a_pParO, eq_self, List.take_succ_cons, List.take_zero, List.drop_succ_cons, List.drop_zero, List.singleton_append, Nat.reduceLeDiff, Option.map_none, Option.toList_some, Option.toList_none, a_qMaxL, a_qRg1, a_piRg, a_pFld, a_qIsO, a_pProp, a_pRevT, a_pSlA, a_pMeth, a_pParSO, a_pAppPop, a_qListS, a_qSortS, a_pSortSet, a_pLtS, a_pTruT, a_pInL, a_pLc2, a_qSortS, a_pRevT, Int.natAbs_natCast])
section
variable {P : Program} {w : World} {K : PySem.W.Frag} {mg : Str → Option Value} {base : Heap} {Z : Pv.Zc}
local macro_rules | `(tactic| walk_at "pp") => `(tactic| simp only [rho, List.map_cons, List.map_nil, List.length_cons, List.length_nil, Nat.reduceAdd, Nat.reduceSub, List.replicate_zero, List.replicate_succ, List.cons_append, List.nil_append, a_pSeq, a_pRet, a_pRetN, a_pNext, a_pIfS, a_pSet, a_pOwn, a_pDrop, a_pPar, a_pPar3, a_pApp, a_pSetI, a_pAsg, a_pNever, a_pV, a_pC, a_pOp, a_pUn, a_pCB, a_pNil, a_pCons, a_pTest, a_pAnd, a_pOr, a_pNot, a_pAndV, a_pOrV, a_pNotV, a_pIf, a_pTup, a_pLst, a_pCall, a_pKw, a_pBMs, a_pChain, a_pOrT, a_pNotT, a_pThen, a_pSl, a_pNoPart, a_pPart, a_pLc, a_pFor, a_piList, a_piTup, a_piStr, a_piRng1, a_piRng2, a_piZip, a_piEnum, a_pYes, bD, iD, sD, lD, tD, oD, ownD, cl, cls, rv, asL, a_p0I, a_pCI, a_pEq, a_pAddS, a_pCat, a_pCatT, a_pIxL, a_pIxT, a_pIxS, a_pNeg, a_pSlL, a_pSlT, a_pSlS, a_qLen, a_qInt, a_qAbs, a_qMax, a_qMin, a_qStrI, a_qIsi, a_qSum, a_qAll, a_qAny, a_qList, a_qTup, a_mJoin, tyD, clD, truD, okT, wd_lst, wd_fre, wd_tup, wd_str, a_pgName, pgTup, pgCons, pgNil, a_pgStar, kit_ss, kit_si, kit_sb, kit_st, kit_ii, kit_ib, kit_is, kit_it, kit_tt, kit_ts, kit_ti, kit_bi, kit_bb, kit_bs, kit_bt, Bool.not_true, Bool.not_false, if_false, reduceCtorEq, Nat.reduceLT, Int.reduceLE, Int.reduceLT, Int.reduceEq, decide_true, decide_false, wipeP, List.getElem?_cons_zero, List.getElem?_cons_succ, List.getElem?_nil, List.set_cons_zero, List.set_cons_succ, Option.map_some, if_true, Bool.false_eq_true, and_true, true_and, List.append_nil, a_qFn, at0, at1, at2, at3, a_pRet2, a_pRel, a_piRng3, a_pParO, eq_self, List.take_succ_cons, List.take_zero, List.drop_succ_cons, List.drop_zero, List.singleton_append, Nat.reduceLeDiff, Option.map_none, Option.toList_some, Option.toList_none, a_qMaxL, a_qRg1, a_piRg, a_pFld, a_qIsO, a_pProp, a_pRevT, a_pSlA, a_pMeth, a_pParSO, a_pAppPop, a_qListS, a_qSortS, a_pSortSet, a_pLtS, a_pTruT, a_pInL, a_pLc2, a_qSortS, a_pRevT, Int.natAbs_natCast])
theorem zip_grp : ∀ (a b : List Str), List.zipWith (fun x y => Dt.tup [x, y]) (a.map Dt.str) (b.map Dt.str) = (a.zip b).map fun p => Dt.tup [.str p.1, .str p.2] := zip_maps _ _
theorem zip_grps : ∀ (a b : List (List Str)), List.zipWith (fun x y => Dt.tup [x, y]) (a.map grpD) (b.map grpD) = (a.zip b).map fun p => Dt.tup [grpD p.1, grpD p.2] := zip_maps _ _
theorem cut1 {α : Type} (f : α → Dt) (g : List α) : Pv.cutD (g.map f) (some 1) none = (g.drop 1).map f := by
  unfold Pv.cutD
  have e2 : HT.sIx (g.map f).length (g.map f).length none = (g.map f).length := rfl
  rw [e2, ← List.map_drop]
  cases g with
  | nil => rfl
  | cons x r =>
    have e1 : HT.sIx ((x :: r).map f).length 0 (some 1) = 1 := by
      rw [List.length_map, List.length_cons]
      unfold HT.sIx
      simp
      try omega
    rw [e1]
    refine List.take_of_length_le ?_
    rw [List.length_map, List.length_drop, List.length_map]
    exact Nat.le_refl _
theorem allB_map {α : Type} (f : α → Bool) : ∀ cs : List α, allB (cs.map fun c => .bl (f c)) = some (cs.map f)
  | [] => rfl
  | c :: cs => by
    show (allB (cs.map _)).map _ = _
    rw [allB_map f cs]
    rfl
/-! ### _is_group -/
abbrev s__is_group : Stmt := top 17
theorem sc__is_group : FnScope ["cases", "value", "lot", "behind"] ["cases", "value"] (defScope s__is_group) := ⟨rfl, rfl, rfl, by decide +kernel, rfl, by decide +kernel, by decide +kernel⟩
def S__is_group : PSp := fun ds Q => ∃ (z : Str) (g : List Str), ds = [.str z, .tup (g.map .str)] ∧ CaseOk z ∧ g ≠ [] ∧ g.length ≤ 32 ∧ (∀ l ∈ g, Part z l) ∧ g.Pairwise sLt ∧ Q (.bl true)
theorem h__is_group {f : Addr} {fd : FuncData} (F : Fun K "_is_group" "_is_group" s__is_group f fd) (m : mg "_is_group" = some (.ref f)) (B : Bn mg) (H_is_lot : Has P w K mg base Z "is_lot" 1 ["cases", "value"] S_is_lot) (B_all : mg "all" = none) : Has P w K mg base Z "_is_group" 2 ["cases", "value"] S__is_group := by
  obtain ⟨f_is_lot, d_is_lot, m_is_lot, k_is_lot, b_is_lot, G_is_lot⟩ := H_is_lot.ex
  refine Has.of F m sc__is_group (F.binds (fun _ _ _ _ _ _ us hl => match us, hl with | [_, _], _ => rfl)) (fun ds Q h => by obtain ⟨_, _, rfl, _⟩ := h; rfl) fun cdv A outer s H E hr => ?_
  refine ⟨_, _, (pss_cons (ps_if (PW.pt (pw_or (pt_not (pt_val (pe_callB (r := rIsi K) (by exact call_isi) (by rfl) B.isinstance (by decide +kernel) (pa_cons (pv 1) (pa_cons (pe_bltn (v := .ty "tuple") (u := .type "tuple") rfl B.tuple (by decide +kernel) rfl) pa_nil))))) (pw_or1 (pt_not (pt_truth (ta := tVar 1) (pv 1) (fun _ => rfl)))))) (pss_one (ps_ret pe_bl)) pss_nil) (pss_cons (ps_if (pt_not (pt_val (pe_callB (r := rAll K) (by exact cr_all rfl) (by rfl) B_all (by decide +kernel) (pa_cons (pe_lc (own := [("lot", 2)]) (wi := (iTup K (tVar 1))) (g := (gName 2)) (tt := tYes) (te := (tCall (spD K Z S_is_lot) [] E0 (tCons (tVar 0) (tCons (tVar 2) tNil)))) rfl sc__is_group.nd (pi_tup (pv 1)) (blkOk_by (N := ["cases", "value", "lot", "behind"]) (sc := defScope s__is_group) (by decide +kernel)) (fun _ _ _ _ _ => (pg_name (i := 2) sc__is_group.nd rfl (by first | exact Or.inl rfl | exact Or.inr rfl))) (fun _ _ _ _ _ => pts_nil) (fun _ _ _ _ _ => (pe_call G_is_lot (hr.mono (by decide)) rfl m_is_lot k_is_lot b_is_lot .nil pass0 (pa_cons (pv 0) (pa_cons (pv 2) pa_nil))))) pa_nil)))) (pss_one (ps_ret pe_bl)) pss_nil) (pss_one (ps_ret (pe_callB (r := rAll K) (by exact cr_all rfl) (by rfl) B_all (by decide +kernel) (pa_cons (pe_lc (own := [("lot", 2), ("behind", 3)]) (wi := (iZz K (tCons (tVar 1) (tCons (tSl (rSlA K) (tVar 1) (tPart (tC (.int 1))) tNoPart) tNil)))) (g := (gTup K 2 (gCons (gName 2) (gCons (gName 3) gNil)))) (tt := tYes) (te := (tOp zLtS (tVar 2) (tVar 3))) rfl sc__is_group.nd (pi_zz rfl B.zip (pa_cons (pv 1) (pa_cons (pe_slice (r := (rSlA K)) (by exact sl_tupA) (pv 1) (po_some pe_int) po_none) pa_nil))) (blkOk_by (N := ["cases", "value", "lot", "behind"]) (sc := defScope s__is_group) (by decide +kernel)) (fun _ _ _ _ _ => (pg_tup (n := 2) rfl (pgs_cons (pg_name (i := 2) sc__is_group.nd rfl (by first | exact Or.inl rfl | exact Or.inr rfl)) (pgs_cons (pg_name (i := 3) sc__is_group.nd rfl (by first | exact Or.inl rfl | exact Or.inr rfl)) pgs_nil)))) (fun _ _ _ _ _ => pts_nil) (fun _ _ _ _ _ => (pe_cmpR o_ltS (pv 2) (pv 3) (nomark _)))) pa_nil)))))), (s_seq (s_ifS (s_or (s_not (s_tB (s_cb q_isi (s_cons s_var (s_cons s_ty s_nil))))) (s_not (s_tru s_var))) (s_ret s_bl) s_next) (s_seq (s_ifS (s_not (s_tB (s_cb q_all (s_cons (s_lc (s_iTup s_var) s_gName s_yes (s_call (s_cons s_var (s_cons s_var s_nil))) (by decide)) s_nil)))) (s_ret s_bl) s_next) (s_ret (s_cb q_all (s_cons (s_lc (s_iZip (s_cons s_var (s_cons (s_sl s_slA s_var (s_part s_int) s_noPart) s_nil))) (s_gTup (s_gCons s_gName (s_gCons s_gName s_gNil))) s_yes (s_op k_ltS s_var s_var) (by decide)) s_nil))))), fun ds Q h => ?_⟩
  obtain ⟨z, g, rfl, hz, h0, hl, hp, hs, q⟩ := h
  show (pSeq _ _) _ [Sl.sh (.str z), Sl.sh (.tup (g.map .str)), .un, .un]
  have z6 := hz.hi
  have e0 : (g.map Dt.str).isEmpty = false := by
    cases g with
    | nil => exact absurd rfl h0
    | cons x r => rfl
  refine seq_step fun N hN => ?_
  walk_at "pp"

  rw [e0]
  walk_at "pp"
  subst hN
  refine seq_step fun N hN => ?_
  walk_at "pp"
  refine lc_map Dt.str (fun _ => Dt.bl true) (fun l hl' Y S y => ?_) (by rw [List.length_nil]; omega) ?_
  · unfold turnC
    walk_at "pp"
    refine ⟨z, l, rfl, by rw [← Array.length_toList]; omega, ?_⟩
    walk_at "pp"
    rw [decide_eq_true (pick_part (hp l hl') hz.nd)]
    exact y
  rw [List.nil_append, allB_map (fun _ => true)]
  have ea : (g.map fun _ => true).all id = true := by
    rw [List.all_eq_true]
    intro x hx
    obtain ⟨_, _, rfl⟩ := List.mem_map.mp hx
    rfl
  show if (!(List.map _ g).all id) = true then _ else _
  rw [ea]
  walk_at "pp"
  subst hN
  walk_at "pp"
  rw [cut1, zip_grp]
  refine lc_map (fun p : Str × Str => Dt.tup [.str p.1, .str p.2]) (fun _ => Dt.bl true) (fun p hp' Y S y => ?_) (by rw [List.length_nil, List.length_zip]; omega) ?_
  · obtain ⟨a, b⟩ := p
    unfold turnC
    walk_at "pp"
    rw [decide_eq_true (ltc_lex _ _ (pw_chain g hs _ hp'))]
    exact y
  rw [List.nil_append, allB_map (fun _ => true)]
  have eb : ((g.zip (g.drop 1)).map fun _ => true).all id = true := by
    rw [List.all_eq_true]
    intro x hx
    obtain ⟨_, _, rfl⟩ := List.mem_map.mp hx
    rfl
  show Q (.bl (List.all _ id))
  rw [eb]
  exact q
end
end Lw

set_option maxRecDepth 100000
set_option maxHeartbeats 4000000
namespace Lw
open PySem PySem.Spec PyProof.Rows L2 Xv Pv
local macro_rules | `(tactic| walk_at "pp") => `(tactic| simp only [rho, List.map_cons, List.map_nil, List.length_cons, List.length_nil, Nat.reduceAdd, Nat.reduceSub, List.replicate_zero, List.replicate_succ, List.cons_append, List.nil_append, a_pSeq, a_pRet, a_pRetN, a_pNext, a_pIfS, a_pSet, a_pOwn, a_pDrop, a_pPar, a_pPar3, a_pApp, a_pSetI, a_pAsg, a_pNever, a_pV, a_pC, a_pOp, a_pUn, a_pCB, a_pNil, a_pCons, a_pTest, a_pAnd, a_pOr, a_pNot, a_pAndV, a_pOrV, a_pNotV, a_pIf, a_pTup, a_pLst, a_pCall, a_pKw, a_pBMs, a_pChain, a_pOrT, a_pNotT, a_pThen, a_pSl, a_pNoPart, a_pPart, a_pLc, a_pFor, a_piList, a_piTup, a_piStr, a_piRng1, a_piRng2, a_piZip, a_piEnum, a_pYes, bD, iD, sD, lD, tD, oD, ownD, cl, cls, rv, asL, a_p0I, a_pCI, a_pEq, a_pAddS, a_pCat, a_pCatT, a_pIxL, a_pIxT, a_pIxS, a_pNeg, a_pSlL, a_pSlT, a_pSlS, a_qLen, a_qInt, a_qAbs, a_qMax, a_qMin, a_qStrI, a_qIsi, a_qSum, a_qAll, a_qAny, a_qList, a_qTup, a_mJoin, tyD, clD, truD, okT, wd_lst, wd_fre, wd_tup, wd_str, a_pgName, pgTup, pgCons, pgNil, a_pgStar, kit_ss, kit_si, kit_sb, kit_st, kit_ii, kit_ib, kit_is, kit_it, kit_tt, kit_ts, kit_ti, kit_bi, kit_bb, kit_bs, kit_bt, Bool.not_true, Bool.not_false, if_false, reduceCtorEq, Nat.reduceLT, Int.reduceLE, Int.reduceLT, Int.reduceEq, decide_true, decide_false, wipeP, List.getElem?_cons_zero, List.getElem?_cons_succ, List.getElem?_nil, List.set_cons_zero, List.set_cons_succ, Option.map_some, if_true, Bool.false_eq_true, and_true, true_and, List.append_nil, a_qFn, at0, at1, at2, at3, a_pRet2, a_pRel, a_piRng3, a_pParO, eq_self, List.take_succ_cons, List.take_zero, List.drop_succ_cons, List.drop_zero, List.singleton_append, Nat.reduceLeDiff, Option.map_none, Option.toList_some, Option.toList_none, a_qMaxL, a_qRg1, a_piRg, a_pFld, a_qIsO, a_pProp, a_pRevT, a_pSlA, a_pMeth, a_pParSO, a_pAppPop, a_qListS, a_qSortS, a_pSortSet, a_pLtS, a_pTruT, a_pInL, a_pLc2, a_qSortS, a_pRevT, Int.natAbs_natCast])
section
variable {P : Program} {w : World} {K : PySem.W.Frag} {mg : Str → Option Value} {base : Heap} {Z : Pv.Zc}
local macro_rules | `(tactic| walk_at "pp") => `(tactic| simp only [rho, List.map_cons, List.map_nil, List.length_cons, List.length_nil, Nat.reduceAdd, Nat.reduceSub, List.replicate_zero, List.replicate_succ, List.cons_append, List.nil_append, a_pSeq, a_pRet, a_pRetN, a_pNext, a_pIfS, a_pSet, a_pOwn, a_pDrop, a_pPar, a_pPar3, a_pApp, a_pSetI, a_pAsg, a_pNever, a_pV, a_pC, a_pOp, a_pUn, a_pCB, a_pNil, a_pCons, a_pTest, a_pAnd, a_pOr, a_pNot, a_pAndV, a_pOrV, a_pNotV, a_pIf, a_pTup, a_pLst, a_pCall, a_pKw, a_pBMs, a_pChain, a_pOrT, a_pNotT, a_pThen, a_pSl, a_pNoPart, a_pPart, a_pLc, a_pFor, a_piList, a_piTup, a_piStr, a_piRng1, a_piRng2, a_piZip, a_piEnum, a_pYes, bD, iD, sD, lD, tD, oD, ownD, cl, cls, rv, asL, a_p0I, a_pCI, a_pEq, a_pAddS, a_pCat, a_pCatT, a_pIxL, a_pIxT, a_pIxS, a_pNeg, a_pSlL, a_pSlT, a_pSlS, a_qLen, a_qInt, a_qAbs, a_qMax, a_qMin, a_qStrI, a_qIsi, a_qSum, a_qAll, a_qAny, a_qList, a_qTup, a_mJoin, tyD, clD, truD, okT, wd_lst, wd_fre, wd_tup, wd_str, a_pgName, pgTup, pgCons, pgNil, a_pgStar, kit_ss, kit_si, kit_sb, kit_st, kit_ii, kit_ib, kit_is, kit_it, kit_tt, kit_ts, kit_ti, kit_bi, kit_bb, kit_bs, kit_bt, Bool.not_true, Bool.not_false, if_false, reduceCtorEq, Nat.reduceLT, Int.reduceLE, Int.reduceLT, Int.reduceEq, decide_true, decide_false, wipeP, List.getElem?_cons_zero, List.getElem?_cons_succ, List.getElem?_nil, List.set_cons_zero, List.set_cons_succ, Option.map_some, if_true, Bool.false_eq_true, and_true, true_and, List.append_nil, a_qFn, at0, at1, at2, at3, a_pRet2, a_pRel, a_piRng3, a_pParO, eq_self, List.take_succ_cons, List.take_zero, List.drop_succ_cons, List.drop_zero, List.singleton_append, Nat.reduceLeDiff, Option.map_none, Option.toList_some, Option.toList_none, a_qMaxL, a_qRg1, a_piRg, a_pFld, a_qIsO, a_pProp, a_pRevT, a_pSlA, a_pMeth, a_pParSO, a_pAppPop, a_qListS, a_qSortS, a_pSortSet, a_pLtS, a_pTruT, a_pInL, a_pLc2, a_qSortS, a_pRevT, Int.natAbs_natCast])
/-! ### _is_order -/
abbrev s__is_order : Stmt := top 16
theorem sc__is_order : FnScope ["cases", "value", "group", "lot"] ["cases", "value"] (defScope s__is_order) := ⟨rfl, rfl, rfl, by decide +kernel, rfl, by decide +kernel, by decide +kernel⟩
def S__is_order : PSp := fun ds Q => ∃ (z : Str) (gs : List (List Str)), ds = [.str z, .tup (gs.map grpD)] ∧ OrdOk z gs ∧ Q (.bl true)
theorem h__is_order {f : Addr} {fd : FuncData} (F : Fun K "_is_order" "_is_order" s__is_order f fd) (m : mg "_is_order" = some (.ref f)) (B : Bn mg) (H__is_group : Has P w K mg base Z "_is_group" 2 ["cases", "value"] S__is_group) (H_lots_of : Has P w K mg base Z "lots_of" 1 ["cases"] S_lots_of) (B_all : mg "all" = none) (B_sorted : mg "sorted" = none) : Has P w K mg base Z "_is_order" 3 ["cases", "value"] S__is_order := by
  obtain ⟨f__is_group, d__is_group, m__is_group, k__is_group, b__is_group, G__is_group⟩ := H__is_group.ex
  obtain ⟨f_lots_of, d_lots_of, m_lots_of, k_lots_of, b_lots_of, G_lots_of⟩ := H_lots_of.ex
  refine Has.of F m sc__is_order (F.binds (fun _ _ _ _ _ _ us hl => match us, hl with | [_, _], _ => rfl)) (fun ds Q h => by obtain ⟨_, _, rfl, _⟩ := h; rfl) fun cdv A outer s H E hr => ?_
  refine ⟨_, _, (pss_cons (ps_if (PW.pt (pw_or (pt_not (pt_val (pe_callB (r := rIsi K) (by exact call_isi) (by rfl) B.isinstance (by decide +kernel) (pa_cons (pv 1) (pa_cons (pe_bltn (v := .ty "tuple") (u := .type "tuple") rfl B.tuple (by decide +kernel) rfl) pa_nil))))) (pw_or1 (pt_not (pt_val (pe_callB (r := rAll K) (by exact cr_all rfl) (by rfl) B_all (by decide +kernel) (pa_cons (pe_lc (own := [("group", 2)]) (wi := (iTup K (tVar 1))) (g := (gName 2)) (tt := tYes) (te := (tCall (spD K Z S__is_group) [] E0 (tCons (tVar 0) (tCons (tVar 2) tNil)))) rfl sc__is_order.nd (pi_tup (pv 1)) (blkOk_by (N := ["cases", "value", "group", "lot"]) (sc := defScope s__is_order) (by decide +kernel)) (fun _ _ _ _ _ => (pg_name (i := 2) sc__is_order.nd rfl (by first | exact Or.inl rfl | exact Or.inr rfl))) (fun _ _ _ _ _ => pts_nil) (fun _ _ _ _ _ => (pe_call G__is_group (hr.mono (by decide)) rfl m__is_group k__is_group b__is_group .nil pass0 (pa_cons (pv 0) (pa_cons (pv 2) pa_nil))))) pa_nil))))))) (pss_one (ps_ret pe_bl)) pss_nil) (pss_one (ps_ret (pe_cmpR (op_eqD hr True.intro) (pe_callB (r := rSortedS K) (by exact cr_sortedS) (by rfl) B_sorted (by decide +kernel) (pa_cons (pe_lc2 (own := [("group", 2), ("lot", 3)]) (wi := (iTup K (tVar 1))) (g := (gName 2)) (tt := tYes) (wi1 := (iTup K (tVar 2))) (g1 := (gName 3)) (tt1 := tYes) (te := (tVar 3)) (vs1 := [3]) rfl sc__is_order.nd (pi_tup (pv 1)) (blkOk_by (N := ["cases", "value", "group", "lot"]) (sc := defScope s__is_order) (by decide +kernel)) (by decide) (fun _ _ _ _ _ => (pg_name (i := 2) sc__is_order.nd rfl (by first | exact Or.inl rfl | exact Or.inr rfl))) (fun _ _ _ _ _ => pts_nil) (fun _ _ _ _ _ => (pi_tup (pv 2))) (fun _ _ _ _ _ => (pg_name (i := 3) sc__is_order.nd rfl (by first | exact Or.inl rfl | exact Or.inr rfl))) (fun _ _ _ _ _ => pts_nil) (fun _ _ _ _ _ => (pv 3))) pa_nil)) (pe_call G_lots_of (hr.mono (by decide)) rfl m_lots_of k_lots_of b_lots_of .nil pass0 (pa_cons (pv 0) pa_nil)) (nomark _))))), (s_seq (s_ifS (s_or (s_not (s_tB (s_cb q_isi (s_cons s_var (s_cons s_ty s_nil))))) (s_not (s_tB (s_cb q_all (s_cons (s_lc (s_iTup s_var) s_gName s_yes (s_call (s_cons s_var (s_cons s_var s_nil))) (by decide)) s_nil))))) (s_ret s_bl) s_next) (s_ret (s_op s_eqD (s_cb q_sortS (s_cons (s_lc2 (s_iTup s_var) s_gName s_yes (s_iTup s_var) s_gName s_yes s_var (by decide) (by decide)) s_nil)) (s_call (s_cons s_var s_nil))))), fun ds Q h => ?_⟩
  obtain ⟨z, gs, rfl, ok, q⟩ := h
  show (pSeq _ _) _ [Sl.sh (.str z), Sl.sh (.tup (gs.map grpD)), .un, .un]
  obtain ⟨pa, l32⟩ := ok.inv
  have gl := ok.len
  refine seq_step fun N hN => ?_
  walk_at "pp"
  refine lc_map grpD (fun _ => Dt.bl true) (fun g hg Y S y => ?_) (by rw [List.length_nil]; omega) ?_
  · unfold turnC grpD
    walk_at "pp"
    refine ⟨z, g, rfl, ok.c, (ok.g g hg).1, ok.glen hg, pa g hg, (ok.g g hg).2, ?_⟩
    walk_at "pp"
    exact y
  rw [List.nil_append, allB_map (fun _ => true)]
  have ea : (gs.map fun _ => true).all id = true := by
    rw [List.all_eq_true]
    intro x hx
    obtain ⟨_, _, rfl⟩ := List.mem_map.mp hx
    rfl
  show if (!(List.map _ gs).all id) = true then _ else _
  rw [ea]
  walk_at "pp"
  subst hN
  walk_at "pp"
  refine lc2_go grpD (fun rest acc => ∃ pre, gs = pre ++ rest ∧ acc = pre.flatten.map Dt.str) (fun g rest acc hi M k => ?_) (fun acc hi => ?_) gs [] ⟨[], rfl, rfl⟩
  · obtain ⟨pre, e, rfl⟩ := hi
    have le : pre.flatten.length + g.length ≤ 32 := by
      rw [e, List.flatten_append, List.flatten_cons, List.length_append, List.length_append] at l32
      omega
    unfold grpD
    walk_at "pp"
    refine lc2_in Dt.str Dt.str (fun l hl Y S y => ?_) (by rw [List.length_map]; omega) ?_
    · unfold turnC
      walk_at "pp"
      exact y
    refine k _ ⟨pre ++ [g], by rw [e]; simp, ?_⟩
    rw [List.flatten_append, List.map_append]
    simp
  obtain ⟨pre, e, rfl⟩ := hi
  rw [List.append_nil] at e
  subst e
  rw [allS_strs]
  refine ⟨by omega, fun ys hy1 hy2 => ?_⟩
  refine ⟨z, rfl, ok.c, ok.h, fun us hu1 hu2 => ?_⟩
  have ky : LOK z ys := ⟨hy1.trans ok.p, hy2, ok.c, ok.h⟩
  have ku : LOK z us := ⟨hu1, hu2, ok.c, ok.h⟩
  have := ky.eq ku
  subst this
  have ll : (PyData.list (ys.map .str)).canLay0 = true := lay_strs ys fun l hl => part_ok ok.c (ky.inv.2.1 l hl)
  have ld : (PyData.list (ys.map .str)).depth ≤ 40 := by
    show PyData.depthAll _ + 1 ≤ 40
    rw [dep_strs]
    decide
  have pe : pds (ys.map .str) = some (ys.map .str) := pds_strs ys
  refine eqd_of (p := .list (ys.map .str)) (q := .list (ys.map .str)) ?_ ?_ ll ll ld ld (b := true) ?_ q
  · show (pds _).map PyData.list = _
    rw [pe]
    rfl
  · show (pds _).map PyData.list = _
    rw [pe]
    rfl
  · show PyData.eqvAll _ _ = true
    rw [eqv_strs]
    exact decide_eq_true rfl
/-! ### _check_order -/
abbrev s__check_order : Stmt := top 15
theorem sc__check_order : FnScope ["cases", "order"] ["cases", "order"] (defScope s__check_order) := ⟨rfl, rfl, rfl, by decide +kernel, rfl, by decide +kernel, by decide +kernel⟩
def S__check_order : PSp := fun ds Q => ∃ (z : Str) (gs : List (List Str)), ds = [.str z, .tup (gs.map grpD)] ∧ OrdOk z gs ∧ Q .non
theorem h__check_order {f : Addr} {fd : FuncData} (F : Fun K "_check_order" "_check_order" s__check_order f fd) (m : mg "_check_order" = some (.ref f)) (B : Bn mg) (H__is_order : Has P w K mg base Z "_is_order" 3 ["cases", "value"] S__is_order) : Has P w K mg base Z "_check_order" 4 ["cases", "order"] S__check_order := by
  obtain ⟨f__is_order, d__is_order, m__is_order, k__is_order, b__is_order, G__is_order⟩ := H__is_order.ex
  refine Has.of F m sc__check_order (F.binds (fun _ _ _ _ _ _ us hl => match us, hl with | [_, _], _ => rfl)) (fun ds Q h => by obtain ⟨_, _, rfl, _⟩ := h; rfl) fun cdv A outer s H E hr => ?_
  refine ⟨_, _, (pss_one (ps_if (pt_not (pt_val (pe_call G__is_order (hr.mono (by decide)) rfl m__is_order k__is_order b__is_order .nil pass0 (pa_cons (pv 0) (pa_cons (pv 1) pa_nil))))) (pss_one ps_never) pss_nil)), (s_ifS (s_not (s_tB (s_call (s_cons s_var (s_cons s_var s_nil))))) s_never s_next), fun ds Q h => ?_⟩
  obtain ⟨z, gs, rfl, ok, q⟩ := h
  walk_at "pp"
  exact ⟨z, gs, rfl, ok, q⟩
end
end Lw

set_option maxRecDepth 100000
set_option maxHeartbeats 4000000
namespace Lw
open PySem PySem.Spec PyProof.Rows L2 Xv Pv
local macro_rules | `(tactic| walk_at "pp") => `(tactic| simp only [rho, List.map_cons, List.map_nil, List.length_cons, List.length_nil, Nat.reduceAdd, Nat.reduceSub, List.replicate_zero, List.replicate_succ, List.cons_append, List.nil_append, a_pSeq, a_pRet, a_pRetN, a_pNext, a_pIfS, a_pSet, a_pOwn, a_pDrop, a_pPar, a_pPar3, a_pApp, a_pSetI, a_pAsg, a_pNever, a_pV, a_pC, a_pOp, a_pUn, a_pCB, a_pNil, a_pCons, a_pTest, a_pAnd, a_pOr, a_pNot, a_pAndV, a_pOrV, a_pNotV, a_pIf, a_pTup, a_pLst, a_pCall, a_pKw, a_pBMs, a_pChain, a_pOrT, a_pNotT, a_pThen, a_pSl, a_pNoPart, a_pPart, a_pLc, a_pFor, a_piList, a_piTup, a_piStr, a_piRng1, a_piRng2, a_piZip, a_piEnum, a_pYes, bD, iD, sD, lD, tD, oD, ownD, cl, cls, rv, asL, a_p0I, a_pCI, a_pEq, a_pAddS, a_pCat, a_pCatT, a_pIxL, a_pIxT, a_pIxS, a_pNeg, a_pSlL, a_pSlT, a_pSlS, a_qLen, a_qInt, a_qAbs, a_qMax, a_qMin, a_qStrI, a_qIsi, a_qSum, a_qAll, a_qAny, a_qList, a_qTup, a_mJoin, tyD, clD, truD, okT, wd_lst, wd_fre, wd_tup, wd_str, a_pgName, pgTup, pgCons, pgNil, a_pgStar, kit_ss, kit_si, kit_sb, kit_st, kit_ii, kit_ib, kit_is, kit_it, kit_tt, kit_ts, kit_ti, kit_bi, kit_bb, kit_bs, kit_bt, Bool.not_true, Bool.not_false, if_false, reduceCtorEq, Nat.reduceLT, Int.reduceLE, Int.reduceLT, Int.reduceEq, decide_true, decide_false, wipeP, List.getElem?_cons_zero, List.getElem?_cons_succ, List.getElem?_nil, List.set_cons_zero, List.set_cons_succ, Option.map_some, if_true, Bool.false_eq_true, and_true, true_and, List.append_nil, a_qFn, at0, at1, at2, at3, a_pRet2, a_pRel, a_piRng3, a_pParO, eq_self, List.take_succ_cons, List.take_zero, List.drop_succ_cons, List.drop_zero, List.singleton_append, Nat.reduceLeDiff, Option.map_none, Option.toList_some, Option.toList_none, a_qMaxL, a_qRg1, a_piRg, a_pFld, a_qIsO, a_pProp, a_pRevT, a_pSlA, a_pMeth, a_pParSO, a_pAppPop, a_qListS, a_qSortS, a_pSortSet, a_pLtS, a_pTruT, a_pInL, a_pLc2, a_qSortS, a_pRevT, Int.natAbs_natCast])
section
variable {P : Program} {w : World} {K : PySem.W.Frag} {mg : Str → Option Value} {base : Heap} {Z : Pv.Zc}
local macro_rules | `(tactic| walk_at "pp") => `(tactic| simp only [rho, List.map_cons, List.map_nil, List.length_cons, List.length_nil, Nat.reduceAdd, Nat.reduceSub, List.replicate_zero, List.replicate_succ, List.cons_append, List.nil_append, a_pSeq, a_pRet, a_pRetN, a_pNext, a_pIfS, a_pSet, a_pOwn, a_pDrop, a_pPar, a_pPar3, a_pApp, a_pSetI, a_pAsg, a_pNever, a_pV, a_pC, a_pOp, a_pUn, a_pCB, a_pNil, a_pCons, a_pTest, a_pAnd, a_pOr, a_pNot, a_pAndV, a_pOrV, a_pNotV, a_pIf, a_pTup, a_pLst, a_pCall, a_pKw, a_pBMs, a_pChain, a_pOrT, a_pNotT, a_pThen, a_pSl, a_pNoPart, a_pPart, a_pLc, a_pFor, a_piList, a_piTup, a_piStr, a_piRng1, a_piRng2, a_piZip, a_piEnum, a_pYes, bD, iD, sD, lD, tD, oD, ownD, cl, cls, rv, asL, a_p0I, a_pCI, a_pEq, a_pAddS, a_pCat, a_pCatT, a_pIxL, a_pIxT, a_pIxS, a_pNeg, a_pSlL, a_pSlT, a_pSlS, a_qLen, a_qInt, a_qAbs, a_qMax, a_qMin, a_qStrI, a_qIsi, a_qSum, a_qAll, a_qAny, a_qList, a_qTup, a_mJoin, tyD, clD, truD, okT, wd_lst, wd_fre, wd_tup, wd_str, a_pgName, pgTup, pgCons, pgNil, a_pgStar, kit_ss, kit_si, kit_sb, kit_st, kit_ii, kit_ib, kit_is, kit_it, kit_tt, kit_ts, kit_ti, kit_bi, kit_bb, kit_bs, kit_bt, Bool.not_true, Bool.not_false, if_false, reduceCtorEq, Nat.reduceLT, Int.reduceLE, Int.reduceLT, Int.reduceEq, decide_true, decide_false, wipeP, List.getElem?_cons_zero, List.getElem?_cons_succ, List.getElem?_nil, List.set_cons_zero, List.set_cons_succ, Option.map_some, if_true, Bool.false_eq_true, and_true, true_and, List.append_nil, a_qFn, at0, at1, at2, at3, a_pRet2, a_pRel, a_piRng3, a_pParO, eq_self, List.take_succ_cons, List.take_zero, List.drop_succ_cons, List.drop_zero, List.singleton_append, Nat.reduceLeDiff, Option.map_none, Option.toList_some, Option.toList_none, a_qMaxL, a_qRg1, a_piRg, a_pFld, a_qIsO, a_pProp, a_pRevT, a_pSlA, a_pMeth, a_pParSO, a_pAppPop, a_qListS, a_qSortS, a_pSortSet, a_pLtS, a_pTruT, a_pInL, a_pLc2, a_qSortS, a_pRevT, Int.natAbs_natCast])
/-! ### _sayings_of -/
abbrev s__sayings_of : Stmt := top 18
theorem sc__sayings_of : FnScope ["order", "within", "between", "group", "lot", "behind"] ["order"] (defScope s__sayings_of) := ⟨rfl, rfl, rfl, by decide +kernel, rfl, by decide +kernel, by decide +kernel⟩
def S__sayings_of : PSp := fun ds Q => ∃ (gs : List (List Str)), ds = [.tup (gs.map grpD)] ∧ (∀ g ∈ gs, g ≠ []) ∧ gs.flatten.length ≤ 32 ∧ Q (.tup ((withinF gs ++ betweenF gs).map sayD))
theorem h__sayings_of {f : Addr} {fd : FuncData} (F : Fun K "_sayings_of" "_sayings_of" s__sayings_of f fd) (m : mg "_sayings_of" = some (.ref f)) (B : Bn mg) : Has P w K mg base Z "_sayings_of" 1 ["order"] S__sayings_of := by
  refine Has.of F m sc__sayings_of (F.binds (fun _ _ _ _ _ _ us hl => match us, hl with | [_], _ => rfl)) (fun ds Q h => by obtain ⟨_, rfl, _⟩ := h; rfl) fun cdv A outer s H E hr => ?_
  refine ⟨_, _, (pss_cons (ps_setLc2 (i := 1) (own := [("group", 3), ("lot", 4)]) (wi := (iTup K (tVar 0))) (g := (gName 3)) (tt := tYes) (wi1 := (iTup K (tSl (rSlA K) (tVar 3) (tPart (tC (.int 1))) tNoPart))) (g1 := (gName 4)) (tt1 := tYes) (te := (tTup (tCons (tC (.str "same")) (tCons (tOp (rIxT K) (tVar 3) (tC (.int 0))) (tCons (tVar 4) tNil))))) (vs1 := [4]) rfl sc__sayings_of.nd rfl rfl (sw_true rfl rfl rfl (by decide +kernel)) (pi_tup (pv 0)) (blkOk_by (N := ["order", "within", "between", "group", "lot", "behind"]) (sc := defScope s__sayings_of) (by decide +kernel)) (by decide) (fun _ _ _ _ _ => (pg_name (i := 3) sc__sayings_of.nd rfl (by first | exact Or.inl rfl | exact Or.inr rfl))) (fun _ _ _ _ _ => pts_nil) (fun _ _ _ _ _ => (pi_tup (pe_slice (r := (rSlA K)) (by exact sl_tupA) (pv 3) (po_some pe_int) po_none))) (fun _ _ _ _ _ => (pg_name (i := 4) sc__sayings_of.nd rfl (by first | exact Or.inl rfl | exact Or.inr rfl))) (fun _ _ _ _ _ => pts_nil) (fun _ _ _ _ _ => (pe_tup (pa_cons pe_str (pa_cons (pe_ix (r := (rIxT K)) (by exact ix_tup) (pv 3) pe_int (fun _ _ => rfl)) (pa_cons (pv 4) pa_nil)))))) (pss_cons (ps_setLc (i := 2) (own := [("group", 3), ("behind", 5)]) (wi := (iZz K (tCons (tVar 0) (tCons (tSl (rSlA K) (tVar 0) (tPart (tC (.int 1))) tNoPart) tNil)))) (g := (gTup K 2 (gCons (gName 3) (gCons (gName 5) gNil)))) (tt := tYes) (te := (tTup (tCons (tC (.str "more")) (tCons (tOp (rIxT K) (tVar 5) (tC (.int 0))) (tCons (tOp (rIxT K) (tVar 3) (tC (.int 0))) tNil))))) rfl sc__sayings_of.nd rfl rfl (sw_true rfl rfl rfl (by decide +kernel)) (pi_zz rfl B.zip (pa_cons (pv 0) (pa_cons (pe_slice (r := (rSlA K)) (by exact sl_tupA) (pv 0) (po_some pe_int) po_none) pa_nil))) (blkOk_by (N := ["order", "within", "between", "group", "lot", "behind"]) (sc := defScope s__sayings_of) (by decide +kernel)) (fun _ _ _ _ _ => (pg_tup (n := 2) rfl (pgs_cons (pg_name (i := 3) sc__sayings_of.nd rfl (by first | exact Or.inl rfl | exact Or.inr rfl)) (pgs_cons (pg_name (i := 5) sc__sayings_of.nd rfl (by first | exact Or.inl rfl | exact Or.inr rfl)) pgs_nil)))) (fun _ _ _ _ _ => pts_nil) (fun _ _ _ _ _ => (pe_tup (pa_cons pe_str (pa_cons (pe_ix (r := (rIxT K)) (by exact ix_tup) (pv 5) pe_int (fun _ _ => rfl)) (pa_cons (pe_ix (r := (rIxT K)) (by exact ix_tup) (pv 3) pe_int (fun _ _ => rfl)) pa_nil)))))) (pss_one (ps_ret (pe_tupleOf rfl B.tuple (pe_op op_cat (pv 1) (pv 2))))))), (s_seq (s_set (s_lc2 (s_iTup s_var) s_gName s_yes (s_iTup (s_sl s_slA s_var (s_part s_int) s_noPart)) s_gName s_yes (s_tup (s_cons s_str (s_cons (s_op s_ixT s_var s_int) (s_cons s_var s_nil)))) (by decide) (by decide))) (s_seq (s_set (s_lc (s_iZip (s_cons s_var (s_cons (s_sl s_slA s_var (s_part s_int) s_noPart) s_nil))) (s_gTup (s_gCons s_gName (s_gCons s_gName s_gNil))) s_yes (s_tup (s_cons s_str (s_cons (s_op s_ixT s_var s_int) (s_cons (s_op s_ixT s_var s_int) s_nil)))) (by decide))) (s_ret (s_then q_tup (s_op s_cat s_var s_var))))), fun ds Q h => ?_⟩
  obtain ⟨gs, rfl, h0, l32, q⟩ := h
  show (pSeq _ _) _ [Sl.sh (.tup (gs.map grpD)), .un, .un, .un, .un, .un]
  have gl : gs.length ≤ 32 := Nat.le_trans (len_flat gs h0) l32
  have at_0 : ∀ g : List Str, g ≠ [] → atI (g.map Dt.str) 0 = some (.str (g.headD "")) := fun g hg => by
    cases g with
    | nil => exact absurd rfl hg
    | cons x r =>
      unfold atI
      have e : ixN ((x :: r).map Dt.str).length 0 = some 0 := by
        unfold ixN
        rw [List.length_map, List.length_cons, if_pos (by omega), if_pos (by omega)]
        rfl
      rw [e]
      rfl
  refine seq_step fun N hN => ?_
  walk_at "pp"
  refine lc2_go grpD (fun rest acc => ∃ pre, gs = pre ++ rest ∧ acc = (withinF pre).map sayD) (fun g rest acc hi M k => ?_) (fun acc hi => ?_) gs [] ⟨[], rfl, rfl⟩
  · obtain ⟨pre, e, rfl⟩ := hi
    have wl := within_len pre
    have le : pre.flatten.length + g.length ≤ 32 := by
      rw [e, List.flatten_append, List.flatten_cons, List.length_append, List.length_append] at l32
      omega
    have hg : g ≠ [] := h0 g (by rw [e]; simp)
    unfold grpD
    walk_at "pp"
    rw [cut1]
    refine lc2_in Dt.str (fun l => sayD ⟨"same", g.headD "", l, none⟩) (fun l hl Y S y => ?_) (by rw [List.length_map, List.length_drop]; omega) ?_
    · unfold turnC
      walk_at "pp"
      rw [at_0 g hg]
      walk_at "pp"
      exact ⟨by rw [sizeLine_eq]; decide, y⟩
    refine k _ ⟨pre ++ [g], by rw [e]; simp, ?_⟩
    unfold withinF
    rw [List.flatMap_append, List.map_append]
    simp only [List.flatMap_cons, List.flatMap_nil, List.append_nil, List.map_map]
    rfl
  obtain ⟨pre, e, rfl⟩ := hi
  rw [List.append_nil] at e
  subst e
  subst hN
  refine seq_step fun N hN => ?_
  walk_at "pp"
  rw [cut1, zip_grps]
  refine lc_map (fun p : List Str × List Str => Dt.tup [grpD p.1, grpD p.2]) (fun p => sayD ⟨"more", p.2.headD "", p.1.headD "", none⟩) (fun p hp Y S y => ?_) (by rw [List.length_nil, List.length_zip]; omega) ?_
  · have h1 := h0 _ (List.of_mem_zip hp).1
    have h2 := h0 _ (List.mem_of_mem_drop (List.of_mem_zip hp).2)
    obtain ⟨a, b⟩ := p
    unfold turnC grpD
    walk_at "pp"
    rw [at_0 b h2, at_0 a h1]
    walk_at "pp"
    exact ⟨by rw [sizeLine_eq]; decide, y⟩
  rw [List.nil_append]
  have wl := within_len gs
  subst hN
  walk_at "pp"
  have e : (withinF gs).map sayD ++ (gs.zip (gs.drop 1)).map (fun p => sayD ⟨"more", p.2.headD "", p.1.headD "", none⟩) = (withinF gs ++ betweenF gs).map sayD := by
    rw [List.map_append]
    unfold betweenF
    rw [List.map_map]
    rfl
  refine ⟨by rw [List.length_map, List.length_map, List.length_zip, sizeLine_eq]; omega, ?_⟩
  rw [e]
  exact q
/-! ### sayings_of -/
abbrev s_sayings_of : Stmt := top 14
theorem sc_sayings_of : FnScope ["cases", "order"] ["cases", "order"] (defScope s_sayings_of) := ⟨rfl, rfl, rfl, by decide +kernel, rfl, by decide +kernel, by decide +kernel⟩
def S_sayings_of : PSp := fun ds Q => ∃ (z : Str) (gs : List (List Str)), ds = [.str z, .tup (gs.map grpD)] ∧ OrdOk z gs ∧ Q (.tup ((withinF gs ++ betweenF gs).map sayD))
theorem h_sayings_of {f : Addr} {fd : FuncData} (F : Fun K "sayings_of" "sayings_of" s_sayings_of f fd) (m : mg "sayings_of" = some (.ref f)) (B : Bn mg) (H_check_cases : Has P w K mg base Z "check_cases" 3 ["cases"] S_check_cases) (H__check_order : Has P w K mg base Z "_check_order" 4 ["cases", "order"] S__check_order) (H__sayings_of : Has P w K mg base Z "_sayings_of" 1 ["order"] S__sayings_of) : Has P w K mg base Z "sayings_of" 5 ["cases", "order"] S_sayings_of := by
  obtain ⟨f_check_cases, d_check_cases, m_check_cases, k_check_cases, b_check_cases, G_check_cases⟩ := H_check_cases.ex
  obtain ⟨f__check_order, d__check_order, m__check_order, k__check_order, b__check_order, G__check_order⟩ := H__check_order.ex
  obtain ⟨f__sayings_of, d__sayings_of, m__sayings_of, k__sayings_of, b__sayings_of, G__sayings_of⟩ := H__sayings_of.ex
  refine Has.of F m sc_sayings_of (F.binds (fun _ _ _ _ _ _ us hl => match us, hl with | [_, _], _ => rfl)) (fun ds Q h => by obtain ⟨_, _, rfl, _⟩ := h; rfl) fun cdv A outer s H E hr => ?_
  refine ⟨_, _, (pss_cons (ps_expr (pe_call G_check_cases (hr.mono (by decide)) rfl m_check_cases k_check_cases b_check_cases .nil pass0 (pa_cons (pv 0) pa_nil))) (pss_cons (ps_expr (pe_call G__check_order (hr.mono (by decide)) rfl m__check_order k__check_order b__check_order .nil pass0 (pa_cons (pv 0) (pa_cons (pv 1) pa_nil)))) (pss_one (ps_ret (pe_call G__sayings_of (hr.mono (by decide)) rfl m__sayings_of k__sayings_of b__sayings_of .nil pass0 (pa_cons (pv 1) pa_nil)))))), (s_seq (s_drop (s_call (s_cons s_var s_nil))) (s_seq (s_drop (s_call (s_cons s_var (s_cons s_var s_nil)))) (s_ret (s_call (s_cons s_var s_nil))))), fun ds Q h => ?_⟩
  obtain ⟨z, gs, rfl, ok, q⟩ := h
  show (pSeq _ _) _ [Sl.sh (.str z), Sl.sh (.tup (gs.map grpD))]
  refine seq_step fun N hN => ?_
  walk_at "pp"
  refine ⟨z, rfl, ok.c, ?_⟩
  walk_at "pp"
  subst hN
  refine seq_step fun N hN => ?_
  walk_at "pp"
  refine ⟨z, gs, rfl, ok, ?_⟩
  walk_at "pp"
  subst hN
  walk_at "pp"
  refine ⟨gs, rfl, fun g hg => (ok.g g hg).1, ok.inv.2, ?_⟩
  walk_at "pp"
  exact q
end
end Lw

set_option maxRecDepth 100000
set_option maxHeartbeats 4000000
namespace Lw
open PySem PySem.Spec PyProof.Rows L2 Xv Pv
local macro_rules | `(tactic| walk_at "pp") => `(tactic| simp only [rho, List.map_cons, List.map_nil, List.length_cons, List.length_nil, Nat.reduceAdd, Nat.reduceSub, List.replicate_zero, List.replicate_succ, List.cons_append, List.nil_append, a_pSeq, a_pRet, a_pRetN, a_pNext, a_pIfS, a_pSet, a_pOwn, a_pDrop, a_pPar, a_pPar3, a_pApp, a_pSetI, a_pAsg, a_pNever, a_pV, a_pC, a_pOp, a_pUn, a_pCB, a_pNil, a_pCons, a_pTest, a_pAnd, a_pOr, a_pNot, a_pAndV, a_pOrV, a_pNotV, a_pIf, a_pTup, a_pLst, a_pCall, a_pKw, a_pBMs, a_pChain, a_pOrT, a_pNotT, a_pThen, a_pSl, a_pNoPart, a_pPart, a_pLc, a_pFor, a_piList, a_piTup, a_piStr, a_piRng1, a_piRng2, a_piZip, a_piEnum, a_pYes, bD, iD, sD, lD, tD, oD, ownD, cl, cls, rv, asL, a_p0I, a_pCI, a_pEq, a_pAddS, a_pCat, a_pCatT, a_pIxL, a_pIxT, a_pIxS, a_pNeg, a_pSlL, a_pSlT, a_pSlS, a_qLen, a_qInt, a_qAbs, a_qMax, a_qMin, a_qStrI, a_qIsi, a_qSum, a_qAll, a_qAny, a_qList, a_qTup, a_mJoin, tyD, clD, truD, okT, wd_lst, wd_fre, wd_tup, wd_str, a_pgName, pgTup, pgCons, pgNil, a_pgStar, kit_ss, kit_si, kit_sb, kit_st, kit_ii, kit_ib, kit_is, kit_it, kit_tt, kit_ts, kit_ti, kit_bi, kit_bb, kit_bs, kit_bt, Bool.not_true, Bool.not_false, if_false, reduceCtorEq, Nat.reduceLT, Int.reduceLE, Int.reduceLT, Int.reduceEq, decide_true, decide_false, wipeP, List.getElem?_cons_zero, List.getElem?_cons_succ, List.getElem?_nil, List.set_cons_zero, List.set_cons_succ, Option.map_some, if_true, Bool.false_eq_true, and_true, true_and, List.append_nil, a_qFn, at0, at1, at2, at3, a_pRet2, a_pRel, a_piRng3, a_pParO, eq_self, List.take_succ_cons, List.take_zero, List.drop_succ_cons, List.drop_zero, List.singleton_append, Nat.reduceLeDiff, Option.map_none, Option.toList_some, Option.toList_none, a_qMaxL, a_qRg1, a_piRg, a_pFld, a_qIsO, a_pProp, a_pRevT, a_pSlA, a_pMeth, a_pParSO, a_pAppPop, a_qListS, a_qSortS, a_pSortSet, a_pLtS, a_pTruT, a_pInL, a_pLc2, a_qSortS, a_pRevT, Int.natAbs_natCast])
section
variable {P : Program} {w : World} {K : PySem.W.Frag} {mg : Str → Option Value} {base : Heap} {Z : Pv.Zc}
local macro_rules | `(tactic| walk_at "pp") => `(tactic| simp only [rho, List.map_cons, List.map_nil, List.length_cons, List.length_nil, Nat.reduceAdd, Nat.reduceSub, List.replicate_zero, List.replicate_succ, List.cons_append, List.nil_append, a_pSeq, a_pRet, a_pRetN, a_pNext, a_pIfS, a_pSet, a_pOwn, a_pDrop, a_pPar, a_pPar3, a_pApp, a_pSetI, a_pAsg, a_pNever, a_pV, a_pC, a_pOp, a_pUn, a_pCB, a_pNil, a_pCons, a_pTest, a_pAnd, a_pOr, a_pNot, a_pAndV, a_pOrV, a_pNotV, a_pIf, a_pTup, a_pLst, a_pCall, a_pKw, a_pBMs, a_pChain, a_pOrT, a_pNotT, a_pThen, a_pSl, a_pNoPart, a_pPart, a_pLc, a_pFor, a_piList, a_piTup, a_piStr, a_piRng1, a_piRng2, a_piZip, a_piEnum, a_pYes, bD, iD, sD, lD, tD, oD, ownD, cl, cls, rv, asL, a_p0I, a_pCI, a_pEq, a_pAddS, a_pCat, a_pCatT, a_pIxL, a_pIxT, a_pIxS, a_pNeg, a_pSlL, a_pSlT, a_pSlS, a_qLen, a_qInt, a_qAbs, a_qMax, a_qMin, a_qStrI, a_qIsi, a_qSum, a_qAll, a_qAny, a_qList, a_qTup, a_mJoin, tyD, clD, truD, okT, wd_lst, wd_fre, wd_tup, wd_str, a_pgName, pgTup, pgCons, pgNil, a_pgStar, kit_ss, kit_si, kit_sb, kit_st, kit_ii, kit_ib, kit_is, kit_it, kit_tt, kit_ts, kit_ti, kit_bi, kit_bb, kit_bs, kit_bt, Bool.not_true, Bool.not_false, if_false, reduceCtorEq, Nat.reduceLT, Int.reduceLE, Int.reduceLT, Int.reduceEq, decide_true, decide_false, wipeP, List.getElem?_cons_zero, List.getElem?_cons_succ, List.getElem?_nil, List.set_cons_zero, List.set_cons_succ, Option.map_some, if_true, Bool.false_eq_true, and_true, true_and, List.append_nil, a_qFn, at0, at1, at2, at3, a_pRet2, a_pRel, a_piRng3, a_pParO, eq_self, List.take_succ_cons, List.take_zero, List.drop_succ_cons, List.drop_zero, List.singleton_append, Nat.reduceLeDiff, Option.map_none, Option.toList_some, Option.toList_none, a_qMaxL, a_qRg1, a_piRg, a_pFld, a_qIsO, a_pProp, a_pRevT, a_pSlA, a_pMeth, a_pParSO, a_pAppPop, a_qListS, a_qSortS, a_pSortSet, a_pLtS, a_pTruT, a_pInL, a_pLc2, a_qSortS, a_pRevT, Int.natAbs_natCast])
theorem nats_int (ws : List Nat) : natsD ws = (intL ws).map Dt.int := by
  unfold natsD intL
  rw [List.map_map]
  rfl
theorem at_cps (z : Str) (i : Nat) (h : i < z.cps.toList.length) : atI z.cps.toList (0 + (i : Int)) = some (z.cps.toList.getD i 0) := by
  have e1 : ixN z.cps.toList.length (0 + (i : Int)) = some i := by
    unfold ixN
    rw [if_pos (by omega), if_pos (by omega)]
    congr 1
    omega
  unfold atI
  rw [e1]
  show z.cps.toList[i]? = _
  rw [List.getD_eq_getElem?_getD, List.getElem?_eq_getElem h]
  rfl
theorem int_getD (us : List Nat) (i : Nat) (h : i < us.length) : (intL us).getD i 0 = ((us.getD i 0 : Nat) : Int) := by
  unfold intL
  rw [List.getD_eq_getElem?_getD, List.getD_eq_getElem?_getD, List.getElem?_map, List.getElem?_eq_getElem h]
  rfl
/-! ### _law_total -/
abbrev s__law_total : Stmt := top 28
theorem sc__law_total : FnScope ["letters_here", "weights_here", "lot", "k"] ["letters_here", "weights_here", "lot"] (defScope s__law_total) := ⟨rfl, rfl, rfl, by decide +kernel, rfl, by decide +kernel, by decide +kernel⟩
def S__law_total : PSp := fun ds Q => ∃ (z : Str) (ws : List Nat) (y : Str), ds = [.str z, .lst (natsD ws), .str y] ∧ z.cps.toList.length ≤ 6 ∧ z.cps.toList.length ≤ ws.length ∧ Q (.int (lotN z y ws : Nat))
theorem h__law_total {f : Addr} {fd : FuncData} (F : Fun K "_law_total" "_law_total" s__law_total f fd) (m : mg "_law_total" = some (.ref f)) (B : Bn mg) : Has P w K mg base Z "_law_total" 1 ["letters_here", "weights_here", "lot"] S__law_total := by
  refine Has.of F m sc__law_total (F.binds (fun _ _ _ _ _ _ us hl => match us, hl with | [_, _, _], _ => rfl)) (fun ds Q h => by obtain ⟨_, _, _, rfl, _⟩ := h; rfl) fun cdv A outer s H E hr => ?_
  refine ⟨_, _, (pss_one (ps_ret (pe_callB (r := rSum K) (by exact cr_sum rfl) (by rfl) B.sum (by decide +kernel) (pa_cons (pe_lc (own := [("k", 3)]) (wi := (iRng1 (tCons (tCB (zLen K) (tCons (tVar 0) tNil)) tNil))) (g := (gName 3)) (tt := (tTest (tOp rInS (tOp rIxS (tVar 0) (tVar 3)) (tVar 2)))) (te := (tOp (rIxL K) (tVar 1) (tVar 3))) rfl sc__law_total.nd (pi_range1 rfl B.range (pa_cons (pe_callB (r := zLen K) (by exact c_len) (by rfl) B.len PySem.boot_len (pa_cons (pv 0) pa_nil)) pa_nil)) (blkOk_by (N := ["letters_here", "weights_here", "lot", "k"]) (sc := defScope s__law_total) (by decide +kernel)) (fun _ _ _ _ _ => (pg_name (i := 3) sc__law_total.nd rfl (by first | exact Or.inl rfl | exact Or.inr rfl))) (fun _ _ _ _ _ => (pts_one (pt_cmpR op_inS (pe_ix (r := rIxS) (by exact ix_str) (pv 0) (pv 3) (fun _ _ => rfl)) (pv 2) (by rfl)))) (fun _ _ _ _ _ => (pe_ix (r := (rIxL K)) (by exact ix_list) (pv 1) (pv 3) (fun _ _ => rfl)))) pa_nil)))), (s_ret (s_cb q_sum (s_cons (s_lc (s_iRng1 (s_cons (s_cb k_len (s_cons s_var s_nil)) s_nil)) s_gName (s_test (s_op s_inS (s_op s_ixS s_var s_var) s_var)) (s_op s_ixL s_var s_var) (by decide)) s_nil))), fun ds Q h => ?_⟩
  obtain ⟨z, us, y, rfl, z6, ul, q⟩ := h
  rw [nats_int]
  show (pRet _) _ [Sl.sh (.str z), Sl.sh (.lst ((intL us).map .int)), Sl.sh (.str y), .un]
  have sz : ∀ n : Nat, n ≤ 1000 → n ≤ sizeLine := fun n h => by rw [sizeLine_eq]; omega
  have il : (intL us).length = us.length := by unfold intL; rw [List.length_map]
  walk_at "pp"
  refine ⟨by rw [len_cps]; exact sz _ (by omega), by rw [len_cps]; omega, by rw [len_cps]; omega, ?_⟩
  rw [len_cps, Int.toNat_natCast]
  unfold rng
  refine lc_fm (fun i : Nat => Dt.int (0 + (i : Int))) (fun i => decide (z.cps.toList.getD i 0 ∈ y.cps.toList)) (fun i => Dt.int ((us.getD i 0 : Nat) : Int)) (fun i hi Y S y1 y2 => ?_) (by rw [List.length_nil, List.length_range]; omega) ?_
  · have hi' := List.mem_range.mp hi
    unfold turnC
    walk_at "pp"
    refine ⟨by rw [len_cps]; exact sz _ (by omega), ?_⟩
    rw [at_cps z i hi']
    refine ⟨_, y, rfl, rfl, ?_⟩
    rw [at_mapI _ i (by omega), int_getD us i (by omega)]
    exact Pv.ite2 y1 y2
  rw [List.nil_append, allI_map (fun i : Nat => ((us.getD i 0 : Nat) : Int))]
  have et : (List.map (fun i : Nat => ((us.getD i 0 : Nat) : Int)) (List.filter (fun i => decide (z.cps.toList.getD i 0 ∈ y.cps.toList)) (List.range z.cps.toList.length))).sum = ((lotN z y us : Nat) : Int) := by
    unfold lotN
    rw [← range_fm y _ us (by omega), ← sum_cast, List.map_map]
    rfl
  show Q (Dt.int (List.sum _))
  rw [et]
  exact q
end
end Lw

set_option maxRecDepth 100000
set_option maxHeartbeats 4000000
namespace Lw
open PySem PySem.Spec PyProof.Rows L2 Xv Pv
local macro_rules | `(tactic| walk_at "pp") => `(tactic| simp only [rho, List.map_cons, List.map_nil, List.length_cons, List.length_nil, Nat.reduceAdd, Nat.reduceSub, List.replicate_zero, List.replicate_succ, List.cons_append, List.nil_append, a_pSeq, a_pRet, a_pRetN, a_pNext, a_pIfS, a_pSet, a_pOwn, a_pDrop, a_pPar, a_pPar3, a_pApp, a_pSetI, a_pAsg, a_pNever, a_pV, a_pC, a_pOp, a_pUn, a_pCB, a_pNil, a_pCons, a_pTest, a_pAnd, a_pOr, a_pNot, a_pAndV, a_pOrV, a_pNotV, a_pIf, a_pTup, a_pLst, a_pCall, a_pKw, a_pBMs, a_pChain, a_pOrT, a_pNotT, a_pThen, a_pSl, a_pNoPart, a_pPart, a_pLc, a_pFor, a_piList, a_piTup, a_piStr, a_piRng1, a_piRng2, a_piZip, a_piEnum, a_pYes, bD, iD, sD, lD, tD, oD, ownD, cl, cls, rv, asL, a_p0I, a_pCI, a_pEq, a_pAddS, a_pCat, a_pCatT, a_pIxL, a_pIxT, a_pIxS, a_pNeg, a_pSlL, a_pSlT, a_pSlS, a_qLen, a_qInt, a_qAbs, a_qMax, a_qMin, a_qStrI, a_qIsi, a_qSum, a_qAll, a_qAny, a_qList, a_qTup, a_mJoin, tyD, clD, truD, okT, wd_lst, wd_fre, wd_tup, wd_str, a_pgName, pgTup, pgCons, pgNil, a_pgStar, kit_ss, kit_si, kit_sb, kit_st, kit_ii, kit_ib, kit_is, kit_it, kit_tt, kit_ts, kit_ti, kit_bi, kit_bb, kit_bs, kit_bt, Bool.not_true, Bool.not_false, if_false, reduceCtorEq, Nat.reduceLT, Int.reduceLE, Int.reduceLT, Int.reduceEq, decide_true, decide_false, wipeP, List.getElem?_cons_zero, List.getElem?_cons_succ, List.getElem?_nil, List.set_cons_zero, List.set_cons_succ, Option.map_some, if_true, Bool.false_eq_true, and_true, true_and, List.append_nil, a_qFn, at0, at1, at2, at3, a_pRet2, a_pRel, a_piRng3, a_pParO, eq_self, List.take_succ_cons, List.take_zero, List.drop_succ_cons, List.drop_zero, List.singleton_append, Nat.reduceLeDiff, Option.map_none, Option.toList_some, Option.toList_none, a_qMaxL, a_qRg1, a_piRg, a_pFld, a_qIsO, a_pProp, a_pRevT, a_pSlA, a_pMeth, a_pParSO, a_pAppPop, a_qListS, a_qSortS, a_pSortSet, a_pLtS, a_pTruT, a_pInL, a_pLc2, a_qSortS, a_pRevT, Int.natAbs_natCast])
section
variable {P : Program} {w : World} {K : PySem.W.Frag} {mg : Str → Option Value} {base : Heap} {Z : Pv.Zc}
local macro_rules | `(tactic| walk_at "pp") => `(tactic| simp only [rho, List.map_cons, List.map_nil, List.length_cons, List.length_nil, Nat.reduceAdd, Nat.reduceSub, List.replicate_zero, List.replicate_succ, List.cons_append, List.nil_append, a_pSeq, a_pRet, a_pRetN, a_pNext, a_pIfS, a_pSet, a_pOwn, a_pDrop, a_pPar, a_pPar3, a_pApp, a_pSetI, a_pAsg, a_pNever, a_pV, a_pC, a_pOp, a_pUn, a_pCB, a_pNil, a_pCons, a_pTest, a_pAnd, a_pOr, a_pNot, a_pAndV, a_pOrV, a_pNotV, a_pIf, a_pTup, a_pLst, a_pCall, a_pKw, a_pBMs, a_pChain, a_pOrT, a_pNotT, a_pThen, a_pSl, a_pNoPart, a_pPart, a_pLc, a_pFor, a_piList, a_piTup, a_piStr, a_piRng1, a_piRng2, a_piZip, a_piEnum, a_pYes, bD, iD, sD, lD, tD, oD, ownD, cl, cls, rv, asL, a_p0I, a_pCI, a_pEq, a_pAddS, a_pCat, a_pCatT, a_pIxL, a_pIxT, a_pIxS, a_pNeg, a_pSlL, a_pSlT, a_pSlS, a_qLen, a_qInt, a_qAbs, a_qMax, a_qMin, a_qStrI, a_qIsi, a_qSum, a_qAll, a_qAny, a_qList, a_qTup, a_mJoin, tyD, clD, truD, okT, wd_lst, wd_fre, wd_tup, wd_str, a_pgName, pgTup, pgCons, pgNil, a_pgStar, kit_ss, kit_si, kit_sb, kit_st, kit_ii, kit_ib, kit_is, kit_it, kit_tt, kit_ts, kit_ti, kit_bi, kit_bb, kit_bs, kit_bt, Bool.not_true, Bool.not_false, if_false, reduceCtorEq, Nat.reduceLT, Int.reduceLE, Int.reduceLT, Int.reduceEq, decide_true, decide_false, wipeP, List.getElem?_cons_zero, List.getElem?_cons_succ, List.getElem?_nil, List.set_cons_zero, List.set_cons_succ, Option.map_some, if_true, Bool.false_eq_true, and_true, true_and, List.append_nil, a_qFn, at0, at1, at2, at3, a_pRet2, a_pRel, a_piRng3, a_pParO, eq_self, List.take_succ_cons, List.take_zero, List.drop_succ_cons, List.drop_zero, List.singleton_append, Nat.reduceLeDiff, Option.map_none, Option.toList_some, Option.toList_none, a_qMaxL, a_qRg1, a_piRg, a_pFld, a_qIsO, a_pProp, a_pRevT, a_pSlA, a_pMeth, a_pParSO, a_pAppPop, a_qListS, a_qSortS, a_pSortSet, a_pLtS, a_pTruT, a_pInL, a_pLc2, a_qSortS, a_pRevT, Int.natAbs_natCast])
theorem nats_of {out : List Int} (h : ∀ k ∈ out, 0 ≤ k) : ∃ ts : List Nat, out = intL ts := by
  refine ⟨out.map Int.toNat, ?_⟩
  unfold intL
  rw [List.map_map]
  refine (List.map_id out).symm.trans (List.map_congr_left fun k hk => ?_)
  have := h k hk
  show k = ((k.toNat : Nat) : Int)
  omega
theorem ts_of {L : List Str} {f : Str → Nat} {ts : List Nat} (ho : (intL ts).Pairwise (· < ·)) (hm : ∀ k : Int, k ∈ intL ts ↔ k ∈ L.map fun l => ((f l : Nat) : Int)) : IsTs L f ts := by
  refine ⟨?_, fun t => ?_⟩
  · unfold intL at ho
    rw [List.pairwise_map] at ho
    exact ho.imp fun h => by omega
  · have h := hm (t : Int)
    constructor
    · intro ht
      obtain ⟨l, hl, e⟩ := List.mem_map.mp (h.mp (List.mem_map.mpr ⟨t, ht, rfl⟩))
      exact ⟨l, hl, by omega⟩
    · rintro ⟨l, hl, rfl⟩
      obtain ⟨t, ht, e⟩ := List.mem_map.mp (h.mpr (List.mem_map.mpr ⟨l, hl, rfl⟩))
      have : t = f l := by omega
      rw [← this]
      exact ht
/-! ### _law_order -/
abbrev s__law_order : Stmt := top 29
theorem sc__law_order : FnScope ["letters_here", "weights_here", "lots", "totals", "found", "total", "lot"] ["letters_here", "weights_here"] (defScope s__law_order) := ⟨rfl, rfl, rfl, by decide +kernel, rfl, by decide +kernel, by decide +kernel⟩
def S__law_order : PSp := fun ds Q => ∃ (z : Str) (ws : List Nat), ds = [.str z, .lst (natsD ws)] ∧ CaseOk z ∧ z.cps.toList.length ≤ 5 ∧ ws.length = z.cps.toList.length ∧ ∀ L ts, LOK z L → IsTs L (fun y => lotN z y ws) ts → Q (.tup ((ordF L (fun y => lotN z y ws) ts).map grpD))
theorem h__law_order {f : Addr} {fd : FuncData} (F : Fun K "_law_order" "_law_order" s__law_order f fd) (m : mg "_law_order" = some (.ref f)) (B : Bn mg) (H__law_lots : Has P w K mg base Z "_law_lots" 1 ["letters_here"] S__law_lots) (H__law_total : Has P w K mg base Z "_law_total" 1 ["letters_here", "weights_here", "lot"] S__law_total) (B_sorted : mg "sorted" = none) (B_set : mg "set" = none) : Has P w K mg base Z "_law_order" 2 ["letters_here", "weights_here"] S__law_order := by
  obtain ⟨f__law_lots, d__law_lots, m__law_lots, k__law_lots, b__law_lots, G__law_lots⟩ := H__law_lots.ex
  obtain ⟨f__law_total, d__law_total, m__law_total, k__law_total, b__law_total, G__law_total⟩ := H__law_total.ex
  refine Has.of F m sc__law_order (F.binds (fun _ _ _ _ _ _ us hl => match us, hl with | [_, _], _ => rfl)) (fun ds Q h => by obtain ⟨_, _, rfl, _⟩ := h; rfl) fun cdv A outer s H E hr => ?_
  refine ⟨_, _, (pss_cons (ps_set (i := 2) sc__law_order.nd rfl (by first | exact Or.inl rfl | exact Or.inr rfl) (pe_call G__law_lots (hr.mono (by decide)) rfl m__law_lots k__law_lots b__law_lots .nil pass0 (pa_cons (pv 0) pa_nil))) (pss_cons (ps_set (i := 3) sc__law_order.nd rfl (by first | exact Or.inl rfl | exact Or.inr rfl) (pe_callB (r := rSortedSet w) (by exact cr_sortedSet rfl) (by rfl) B_sorted (by decide +kernel) (pa_cons (pe_callTy (r := rSetL K w) (by exact cr_setL rfl) (by rfl) B_set (by decide +kernel) (pa_cons (pe_lc (own := [("lot", 6)]) (wi := (iList K (tVar 2))) (g := (gName 6)) (tt := tYes) (te := (tCall (spD K Z S__law_total) [] E0 (tCons (tVar 0) (tCons (tVar 1) (tCons (tVar 6) tNil))))) rfl sc__law_order.nd (pi_list (pv 2)) (blkOk_by (N := ["letters_here", "weights_here", "lots", "totals", "found", "total", "lot"]) (sc := defScope s__law_order) (by decide +kernel)) (fun _ _ _ _ _ => (pg_name (i := 6) sc__law_order.nd rfl (by first | exact Or.inl rfl | exact Or.inr rfl))) (fun _ _ _ _ _ => pts_nil) (fun _ _ _ _ _ => (pe_call G__law_total (hr.mono (by decide)) rfl m__law_total k__law_total b__law_total .nil pass0 (pa_cons (pv 0) (pa_cons (pv 1) (pa_cons (pv 6) pa_nil)))))) pa_nil)) pa_nil))) (pss_cons (ps_set (i := 4) sc__law_order.nd rfl (by first | exact Or.inl rfl | exact Or.inr rfl) (pe_lst pa_nil)) (pss_cons (ps_for PassesOwn.never rfl (pi_list (pv 3)) (pg_name (i := 5) sc__law_order.nd rfl (by first | exact Or.inl rfl | exact Or.inr rfl)) (pss_one (ps_expr (pe_bm (r := rAppend) PySem.F.plainAttrs_list PySem.F.slot_list_append PySem.F.type_list_append mt_append (pv 4) (pa_cons (pe_tupleOf rfl B.tuple (pe_lc (own := [("lot", 6)]) (wi := (iList K (tVar 2))) (g := (gName 6)) (tt := (tTest (tOp rEq (tCall (spD K Z S__law_total) [] E0 (tCons (tVar 0) (tCons (tVar 1) (tCons (tVar 6) tNil)))) (tVar 5)))) (te := (tVar 6)) rfl sc__law_order.nd (pi_list (pv 2)) (blkOk_by (N := ["letters_here", "weights_here", "lots", "totals", "found", "total", "lot"]) (sc := defScope s__law_order) (by decide +kernel)) (fun _ _ _ _ _ => (pg_name (i := 6) sc__law_order.nd rfl (by first | exact Or.inl rfl | exact Or.inr rfl))) (fun _ _ _ _ _ => (pts_one (pt_cmpR op_eq (pe_call G__law_total (hr.mono (by decide)) rfl m__law_total k__law_total b__law_total .nil pass0 (pa_cons (pv 0) (pa_cons (pv 1) (pa_cons (pv 6) pa_nil)))) (pv 5) (nomark _)))) (fun _ _ _ _ _ => (pv 6)))) pa_nil))))) (pss_one (ps_ret (pe_tupleOf rfl B.tuple (pv 4)))))))), (s_seq (s_set (s_call (s_cons s_var s_nil))) (s_seq (s_set (s_sortSet (s_lc (s_iList s_var) s_gName s_yes (s_call (s_cons s_var (s_cons s_var (s_cons s_var s_nil)))) (by decide)))) (s_seq (s_own (s_lst s_nil)) (s_seq (s_for (s_iList s_var) s_gName (s_app (s_then q_tup (s_lc (s_iList s_var) s_gName (s_test (s_op s_eq (s_call (s_cons s_var (s_cons s_var (s_cons s_var s_nil)))) s_var)) s_var (by decide))))) (s_ret (s_then q_tup s_var)))))), fun ds Q h => ?_⟩
  obtain ⟨z, ws, rfl, hz, h5, hw, q⟩ := h
  show (pSeq _ _) _ [Sl.sh (.str z), Sl.sh (.lst (natsD ws)), .un, .un, .un, .un, .un]
  refine seq_step fun N hN => ?_
  walk_at "pp"
  refine ⟨z, rfl, hz, h5, fun L hp hs => ?_⟩
  walk_at "pp"
  have ok : LOK z L := ⟨hp, hs, hz, h5⟩
  have l32 := ok.inv.2.2.1
  subst hN
  refine seq_step fun N hN => ?_
  walk_at "pp"
  refine lc_map Dt.str (fun l => Dt.int ((lotN z l ws : Nat) : Int)) (fun l hl Y S y => ?_) (by rw [List.length_nil]; omega) ?_
  · unfold turnC
    walk_at "pp"
    refine ⟨z, ws, l, rfl, by omega, by omega, ?_⟩
    walk_at "pp"
    exact y
  rw [List.nil_append, allI_map (fun l => ((lotN z l ws : Nat) : Int))]
  refine ⟨by rw [List.length_map]; omega, fun out ho hm => ?_⟩
  obtain ⟨ts, rfl⟩ := nats_of (out := out) fun k hk => by
    obtain ⟨l, _, rfl⟩ := List.mem_map.mp ((hm k).mp hk)
    omega
  have it : IsTs L (fun y => lotN z y ws) ts := ts_of ho hm
  have oo := ord_ok ok it
  have tl : ts.length ≤ 32 := by
    have := oo.len
    unfold ordF at this
    rwa [List.length_map] at this
  rw [← nats_int]
  subst hN
  refine seq_step fun N hN => ?_
  walk_at "pp"
  refine ⟨Nat.zero_le _, ?_⟩
  subst hN
  refine seq_step fun N hN => ?_
  walk_at "pp"
  unfold natsD
  refine for_inv (fun n : Nat => Dt.int (n : Nat)) (fun rest ρ => ∃ (pre : List Nat) (a b : Sl), ts = pre ++ rest ∧ ρ = [Sl.sh (.str z), Sl.sh (.lst (natsD ws)), Sl.sh (.lst (L.map .str)), Sl.sh (.lst (natsD ts)), Sl.own ((ordF L (fun y => lotN z y ws) pre).map grpD), a, b]) (fun t rest ρ hi nx k => ?_) (fun ρ hi => ?_) _ _ ⟨[], _, _, rfl, rfl⟩
  · obtain ⟨pre, a, b, e, rfl⟩ := hi
    have pl : pre.length ≤ 32 := by
      have := congrArg List.length e
      rw [List.length_append] at this
      omega
    refine tgt_step fun M hM => ?_
    walk_at "pp"
    subst hM
    walk_at "pp"
    refine lc_fm Dt.str (fun l => decide (lotN z l ws = t)) Dt.str (fun l hl Y S y1 y2 => ?_) (by rw [List.length_nil]; omega) ?_
    · unfold turnC
      walk_at "pp"
      refine ⟨z, ws, l, rfl, by omega, by omega, ?_⟩
      walk_at "pp"
      have e : decide (((lotN z l ws : Nat) : Int) = (t : Int)) = decide (lotN z l ws = t) := by
        congr 1
        exact propext ⟨fun h => by omega, fun h => by omega⟩
      rw [e]
      exact Pv.ite2 y1 y2
    rw [List.nil_append]
    refine ⟨by rw [List.length_map]; unfold ordF; rw [List.length_map, sizeLine_eq]; omega, k _ ⟨pre ++ [t], Sl.sh (Dt.int ((t : Nat) : Int)), b, by rw [e]; simp, ?_⟩⟩
    unfold ordF
    rw [List.map_append, List.map_append]
    rfl
  · obtain ⟨pre, a, b, e, rfl⟩ := hi
    rw [List.append_nil] at e
    subst e
    show N _
    subst hN
    walk_at "pp"
    exact q L ts ok it
/-! ### _law_are_sayings -/
abbrev s__law_are_sayings : Stmt := top 30
theorem sc__law_are_sayings : FnScope ["letters_here", "told", "lots", "each"] ["letters_here", "told"] (defScope s__law_are_sayings) := ⟨rfl, rfl, rfl, by decide +kernel, rfl, by decide +kernel, by decide +kernel⟩
def S__law_are_sayings : PSp := fun ds Q => ∃ (z : Str) (ss : List Say), ds = [.str z, .tup (ss.map sayD)] ∧ CaseOk z ∧ z.cps.toList.length ≤ 5 ∧ (∀ s ∈ ss, (s.w = "more" ∨ s.w = "same") ∧ s.n = none ∧ s.a ∈ lotsGo z.cps.toList [""] ∧ s.b ∈ lotsGo z.cps.toList [""]) ∧ Q (.bl true)
theorem h__law_are_sayings {f : Addr} {fd : FuncData} (F : Fun K "_law_are_sayings" "_law_are_sayings" s__law_are_sayings f fd) (m : mg "_law_are_sayings" = some (.ref f)) (B : Bn mg) (H__law_lots : Has P w K mg base Z "_law_lots" 1 ["letters_here"] S__law_lots) : Has P w K mg base Z "_law_are_sayings" 2 ["letters_here", "told"] S__law_are_sayings := by
  obtain ⟨f__law_lots, d__law_lots, m__law_lots, k__law_lots, b__law_lots, G__law_lots⟩ := H__law_lots.ex
  refine Has.of F m sc__law_are_sayings (F.binds (fun _ _ _ _ _ _ us hl => match us, hl with | [_, _], _ => rfl)) (fun ds Q h => by obtain ⟨_, _, rfl, _⟩ := h; rfl) fun cdv A outer s H E hr => ?_
  refine ⟨_, _, (pss_cons (ps_if (pt_not (pt_val (pe_callB (r := rIsi K) (by exact call_isi) (by rfl) B.isinstance (by decide +kernel) (pa_cons (pv 1) (pa_cons (pe_bltn (v := .ty "tuple") (u := .type "tuple") rfl B.tuple (by decide +kernel) rfl) pa_nil))))) (pss_one (ps_ret pe_bl)) pss_nil) (pss_cons (ps_set (i := 2) sc__law_are_sayings.nd rfl (by first | exact Or.inl rfl | exact Or.inr rfl) (pe_call G__law_lots (hr.mono (by decide)) rfl m__law_lots k__law_lots b__law_lots .nil pass0 (pa_cons (pv 0) pa_nil))) (pss_cons (ps_for PassesOwn.never rfl (pi_tup (pv 1)) (pg_name (i := 3) sc__law_are_sayings.nd rfl (by first | exact Or.inl rfl | exact Or.inr rfl)) (pss_cons (ps_if (PW.pt (pw_or (pt_not (pt_val (pe_callB (r := rIsi K) (by exact call_isi) (by rfl) B.isinstance (by decide +kernel) (pa_cons (pv 3) (pa_cons (pe_bltn (v := .ty "tuple") (u := .type "tuple") rfl B.tuple (by decide +kernel) rfl) pa_nil))))) (pw_or (pt_cmpR op_ne (pe_callB (r := zLen K) (by exact c_len) (by rfl) B.len PySem.boot_len (pa_cons (pv 3) pa_nil)) pe_int (nomark _)) (pw_or1 (pt_cmpR op_notIn_seq (pe_ix (r := (rIxT K)) (by exact ix_tup) (pv 3) pe_int (fun _ _ => rfl)) (pe_lst (pa_cons pe_str (pa_cons pe_str pa_nil))) (by rfl)))))) (pss_one (ps_ret pe_bl)) pss_nil) (pss_one (ps_if (PW.pt (pw_or (pt_cmpR op_notIn_seq (pe_ix (r := (rIxT K)) (by exact ix_tup) (pv 3) pe_int (fun _ _ => rfl)) (pv 2) (by rfl)) (pw_or1 (pt_cmpR op_notIn_seq (pe_ix (r := (rIxT K)) (by exact ix_tup) (pv 3) pe_int (fun _ _ => rfl)) (pv 2) (by rfl))))) (pss_one (ps_ret pe_bl)) pss_nil)))) (pss_one (ps_ret pe_bl))))), (s_seq (s_ifS (s_not (s_tB (s_cb q_isi (s_cons s_var (s_cons s_ty s_nil))))) (s_ret s_bl) s_next) (s_seq (s_set (s_call (s_cons s_var s_nil))) (s_seq (s_for (s_iTup s_var) s_gName (s_seq (s_ifS (s_or (s_not (s_tB (s_cb q_isi (s_cons s_var (s_cons s_ty s_nil))))) (s_or (s_test (s_op s_ne (s_cb k_len (s_cons s_var s_nil)) s_int)) (s_test (s_op s_ninL (s_op s_ixT s_var s_int) (s_lst (s_cons s_str (s_cons s_str s_nil))))))) (s_ret s_bl) s_next) (s_ifS (s_or (s_test (s_op s_ninL (s_op s_ixT s_var s_int) s_var)) (s_test (s_op s_ninL (s_op s_ixT s_var s_int) s_var))) (s_ret s_bl) s_next))) (s_ret s_bl)))), fun ds Q h => ?_⟩
  obtain ⟨z, ss, rfl, hz, h5, hs, q⟩ := h
  show (pSeq _ _) _ [Sl.sh (.str z), Sl.sh (.tup (ss.map sayD)), .un, .un]
  refine seq_step fun N hN => ?_
  walk_at "pp"
  subst hN
  refine seq_step fun N hN => ?_
  walk_at "pp"
  refine ⟨z, rfl, hz, h5, fun L hp hso => ?_⟩
  walk_at "pp"
  subst hN
  refine seq_step fun N hN => ?_
  walk_at "pp"
  refine for_inv sayD (fun rest ρ => ∃ (pre : List Say) (a : Sl), ss = pre ++ rest ∧ ρ = [Sl.sh (.str z), Sl.sh (.tup (ss.map sayD)), Sl.sh (.lst (L.map .str)), a]) (fun s rest ρ hi nx k => ?_) (fun ρ hi => ?_) _ _ ⟨[], _, rfl, rfl⟩
  · obtain ⟨pre, a, e, rfl⟩ := hi
    obtain ⟨h1, h2, h3, h4⟩ := hs s (by rw [e]; simp)
    have kk := fun a => k [Sl.sh (.str z), Sl.sh (.tup (ss.map sayD)), Sl.sh (.lst (L.map .str)), a] ⟨pre ++ [s], _, by rw [e]; simp, rfl⟩
    generalize ss.map sayD = T at *
    obtain ⟨w0, x, y, n⟩ := s
    have h2' : n = none := h2
    subst h2'
    have h3' : x ∈ L := hp.mem_iff.mpr h3
    have h4' : y ∈ L := hp.mem_iff.mpr h4
    have es : sayD ⟨w0, x, y, none⟩ = .tup [.str w0, .str x, .str y] := rfl
    rw [es]
    refine tgt_step fun M hM => ?_
    walk_at "pp"
    subst hM
    refine seq_step fun M hM => ?_
    walk_at "pp"
    have ew : decide (w0 ∈ [("more" : Str), "same"]) = true := by
      refine decide_eq_true ?_
      rcases h1 with h | h
      · have h' : w0 = "more" := h
        rw [h']
        simp
      · have h' : w0 = "same" := h
        rw [h']
        simp
    refine Pv.ite2 (fun z => absurd z (by simp)) fun _ => ?_
    refine ⟨by rw [sizeLine_eq]; decide, ?_⟩
    show if (!decide (w0 ∈ [("more" : Str), "same"])) = true then _ else _
    rw [if_neg (by rw [ew]; decide)]
    subst hM
    walk_at "pp"
    rw [allS_strs]
    have ex : (!decide (x ∈ L)) = false := by rw [decide_eq_true h3']; rfl
    have ey : (!decide (y ∈ L)) = false := by rw [decide_eq_true h4']; rfl
    simp only [ex, ey]
    walk_at "pp"
    exact kk _
  · obtain ⟨pre, a, e, rfl⟩ := hi
    show N _
    subst hN
    walk_at "pp"
    exact q
end
end Lw

set_option maxRecDepth 100000
set_option maxHeartbeats 4000000
namespace Lw
open PySem PySem.Spec PyProof.Rows L2 Xv Pv
local macro_rules | `(tactic| walk_at "pp") => `(tactic| simp only [rho, List.map_cons, List.map_nil, List.length_cons, List.length_nil, Nat.reduceAdd, Nat.reduceSub, List.replicate_zero, List.replicate_succ, List.cons_append, List.nil_append, a_pSeq, a_pRet, a_pRetN, a_pNext, a_pIfS, a_pSet, a_pOwn, a_pDrop, a_pPar, a_pPar3, a_pApp, a_pSetI, a_pAsg, a_pNever, a_pV, a_pC, a_pOp, a_pUn, a_pCB, a_pNil, a_pCons, a_pTest, a_pAnd, a_pOr, a_pNot, a_pAndV, a_pOrV, a_pNotV, a_pIf, a_pTup, a_pLst, a_pCall, a_pKw, a_pBMs, a_pChain, a_pOrT, a_pNotT, a_pThen, a_pSl, a_pNoPart, a_pPart, a_pLc, a_pFor, a_piList, a_piTup, a_piStr, a_piRng1, a_piRng2, a_piZip, a_piEnum, a_pYes, bD, iD, sD, lD, tD, oD, ownD, cl, cls, rv, asL, a_p0I, a_pCI, a_pEq, a_pAddS, a_pCat, a_pCatT, a_pIxL, a_pIxT, a_pIxS, a_pNeg, a_pSlL, a_pSlT, a_pSlS, a_qLen, a_qInt, a_qAbs, a_qMax, a_qMin, a_qStrI, a_qIsi, a_qSum, a_qAll, a_qAny, a_qList, a_qTup, a_mJoin, tyD, clD, truD, okT, wd_lst, wd_fre, wd_tup, wd_str, a_pgName, pgTup, pgCons, pgNil, a_pgStar, kit_ss, kit_si, kit_sb, kit_st, kit_ii, kit_ib, kit_is, kit_it, kit_tt, kit_ts, kit_ti, kit_bi, kit_bb, kit_bs, kit_bt, Bool.not_true, Bool.not_false, if_false, reduceCtorEq, Nat.reduceLT, Int.reduceLE, Int.reduceLT, Int.reduceEq, decide_true, decide_false, wipeP, List.getElem?_cons_zero, List.getElem?_cons_succ, List.getElem?_nil, List.set_cons_zero, List.set_cons_succ, Option.map_some, if_true, Bool.false_eq_true, and_true, true_and, List.append_nil, a_qFn, at0, at1, at2, at3, a_pRet2, a_pRel, a_piRng3, a_pParO, eq_self, List.take_succ_cons, List.take_zero, List.drop_succ_cons, List.drop_zero, List.singleton_append, Nat.reduceLeDiff, Option.map_none, Option.toList_some, Option.toList_none, a_qMaxL, a_qRg1, a_piRg, a_pFld, a_qIsO, a_pProp, a_pRevT, a_pSlA, a_pMeth, a_pParSO, a_pAppPop, a_qListS, a_qSortS, a_pSortSet, a_pLtS, a_pTruT, a_pInL, a_pLc2, a_qSortS, a_pRevT, Int.natAbs_natCast])
section
variable {P : Program} {w : World} {K : PySem.W.Frag} {mg : Str → Option Value} {base : Heap} {Z : Pv.Zc}
local macro_rules | `(tactic| walk_at "pp") => `(tactic| simp only [rho, List.map_cons, List.map_nil, List.length_cons, List.length_nil, Nat.reduceAdd, Nat.reduceSub, List.replicate_zero, List.replicate_succ, List.cons_append, List.nil_append, a_pSeq, a_pRet, a_pRetN, a_pNext, a_pIfS, a_pSet, a_pOwn, a_pDrop, a_pPar, a_pPar3, a_pApp, a_pSetI, a_pAsg, a_pNever, a_pV, a_pC, a_pOp, a_pUn, a_pCB, a_pNil, a_pCons, a_pTest, a_pAnd, a_pOr, a_pNot, a_pAndV, a_pOrV, a_pNotV, a_pIf, a_pTup, a_pLst, a_pCall, a_pKw, a_pBMs, a_pChain, a_pOrT, a_pNotT, a_pThen, a_pSl, a_pNoPart, a_pPart, a_pLc, a_pFor, a_piList, a_piTup, a_piStr, a_piRng1, a_piRng2, a_piZip, a_piEnum, a_pYes, bD, iD, sD, lD, tD, oD, ownD, cl, cls, rv, asL, a_p0I, a_pCI, a_pEq, a_pAddS, a_pCat, a_pCatT, a_pIxL, a_pIxT, a_pIxS, a_pNeg, a_pSlL, a_pSlT, a_pSlS, a_qLen, a_qInt, a_qAbs, a_qMax, a_qMin, a_qStrI, a_qIsi, a_qSum, a_qAll, a_qAny, a_qList, a_qTup, a_mJoin, tyD, clD, truD, okT, wd_lst, wd_fre, wd_tup, wd_str, a_pgName, pgTup, pgCons, pgNil, a_pgStar, kit_ss, kit_si, kit_sb, kit_st, kit_ii, kit_ib, kit_is, kit_it, kit_tt, kit_ts, kit_ti, kit_bi, kit_bb, kit_bs, kit_bt, Bool.not_true, Bool.not_false, if_false, reduceCtorEq, Nat.reduceLT, Int.reduceLE, Int.reduceLT, Int.reduceEq, decide_true, decide_false, wipeP, List.getElem?_cons_zero, List.getElem?_cons_succ, List.getElem?_nil, List.set_cons_zero, List.set_cons_succ, Option.map_some, if_true, Bool.false_eq_true, and_true, true_and, List.append_nil, a_qFn, at0, at1, at2, at3, a_pRet2, a_pRel, a_piRng3, a_pParO, eq_self, List.take_succ_cons, List.take_zero, List.drop_succ_cons, List.drop_zero, List.singleton_append, Nat.reduceLeDiff, Option.map_none, Option.toList_some, Option.toList_none, a_qMaxL, a_qRg1, a_piRg, a_pFld, a_qIsO, a_pProp, a_pRevT, a_pSlA, a_pMeth, a_pParSO, a_pAppPop, a_qListS, a_qSortS, a_pSortSet, a_pLtS, a_pTruT, a_pInL, a_pLc2, a_qSortS, a_pRevT, Int.natAbs_natCast])
variable {p : Addr}
/-! ### _law_right -/
abbrev s__law_right : Stmt := top 31
theorem sc__law_right : FnScope ["kiln", "turn", "letters_here", "weights_here", "due", "told", "some", "k", "fresh", "each", "holds_here", "number", "said"] ["kiln"] (defScope s__law_right) := ⟨rfl, rfl, rfl, by decide +kernel, rfl, by decide +kernel, by decide +kernel⟩
theorem h__law_right {f : Addr} {fd : FuncData} (F : Fun K "_law_right" "_law_right" s__law_right f fd) (m : mg "_law_right" = some (.ref f)) (B : Bn mg) (H__law_scoop : Has P w K mg base (Zk p) "_law_scoop" 1 ["kiln", "amount"] (S__law_scoop p)) (H__law_letters : Has P w K mg base (Zk p) "_law_letters" 2 ["kiln", "size"] (S__law_letters p)) (H__law_weights : Has P w K mg base (Zk p) "_law_weights" 2 ["kiln", "size"] (S__law_weights p)) (H__law_holds : Has P w K mg base (Zk p) "_law_holds" 2 ["letters_here", "saying_here", "weights_here"] S__law_holds) (H__law_order : Has P w K mg base (Zk p) "_law_order" 2 ["letters_here", "weights_here"] S__law_order) (H__law_are_sayings : Has P w K mg base (Zk p) "_law_are_sayings" 2 ["letters_here", "told"] S__law_are_sayings) (FA : FK P w K mg base (Zk p) "sayings_of" 5 ["cases", "order"] ["order", "cases"] S_sayings_of) : FnG P w K mg base CX0 9 f fd ["kiln"] (spD K (Zk p) (S__law_right p)) := by
  obtain ⟨f__law_scoop, d__law_scoop, m__law_scoop, k__law_scoop, b__law_scoop, G__law_scoop⟩ := H__law_scoop.ex
  obtain ⟨f__law_letters, d__law_letters, m__law_letters, k__law_letters, b__law_letters, G__law_letters⟩ := H__law_letters.ex
  obtain ⟨f__law_weights, d__law_weights, m__law_weights, k__law_weights, b__law_weights, G__law_weights⟩ := H__law_weights.ex
  obtain ⟨f__law_holds, d__law_holds, m__law_holds, k__law_holds, b__law_holds, G__law_holds⟩ := H__law_holds.ex
  obtain ⟨f__law_order, d__law_order, m__law_order, k__law_order, b__law_order, G__law_order⟩ := H__law_order.ex
  obtain ⟨f__law_are_sayings, d__law_are_sayings, m__law_are_sayings, k__law_are_sayings, b__law_are_sayings, G__law_are_sayings⟩ := H__law_are_sayings.ex
  obtain ⟨f_sayings_of, d_sayings_of, m_sayings_of, k_sayings_of, b_sayings_of, G_sayings_of, kb_sayings_of⟩ := FA.ex
  refine ok_DG F sc__law_right (fun ds Q h => by obtain ⟨rfl, _⟩ := h; rfl) fun cdv A outer s H E hg hr => ?_
  refine ⟨_, _, (pss_cons (ps_for PassesOwn.never rfl (pi_range1 rfl B.range (pa_cons pe_int pa_nil)) (pg_name (i := 1) sc__law_right.nd rfl (by first | exact Or.inl rfl | exact Or.inr rfl)) (pss_cons (ps_set (i := 2) sc__law_right.nd rfl (by first | exact Or.inl rfl | exact Or.inr rfl) (pe_call G__law_letters (hr.mono (by decide)) rfl m__law_letters k__law_letters b__law_letters .nil pass0 (pa_cons (pv 0) (pa_cons (pe_op o_add pe_int (pe_call G__law_scoop (hr.mono (by decide)) rfl m__law_scoop k__law_scoop b__law_scoop .nil pass0 (pa_cons (pv 0) (pa_cons pe_int pa_nil)))) pa_nil)))) (pss_cons (ps_set (i := 3) sc__law_right.nd rfl (by first | exact Or.inl rfl | exact Or.inr rfl) (pe_call G__law_weights (hr.mono (by decide)) rfl m__law_weights k__law_weights b__law_weights .nil pass0 (pa_cons (pv 0) (pa_cons (pe_callB (r := zLen K) (by exact c_len) (by rfl) B.len PySem.boot_len (pa_cons (pv 2) pa_nil)) pa_nil)))) (pss_cons (ps_set (i := 4) sc__law_right.nd rfl (by first | exact Or.inl rfl | exact Or.inr rfl) (pe_call G__law_order (hr.mono (by decide)) rfl m__law_order k__law_order b__law_order .nil pass0 (pa_cons (pv 2) (pa_cons (pv 3) pa_nil)))) (pss_one (ps_for PassesOwn.never rfl (pi_list (pe_lst (pa_cons (pe_call G_sayings_of (hr.mono (by decide)) rfl m_sayings_of k_sayings_of b_sayings_of .nil pass0 (pa_cons (pv 2) (pa_cons (pv 4) pa_nil))) (pa_cons (pe_kw0 G_sayings_of (hr.mono (by decide)) rfl m_sayings_of k_sayings_of kb_sayings_of (pk_cons (pv 4) (pk_cons (pv 2) pk_nil))) pa_nil)))) (pg_name (i := 5) sc__law_right.nd rfl (by first | exact Or.inl rfl | exact Or.inr rfl)) (pss_cons (ps_if (pt_not (pt_val (pe_call G__law_are_sayings (hr.mono (by decide)) rfl m__law_are_sayings k__law_are_sayings b__law_are_sayings .nil pass0 (pa_cons (pv 2) (pa_cons (pv 5) pa_nil))))) (pss_one (ps_ret pe_bl)) pss_nil) (pss_cons (ps_set (i := 6) sc__law_right.nd rfl (by first | exact Or.inl rfl | exact Or.inr rfl) (pe_lst (pa_cons (pv 3) (pa_cons (pe_lc (own := [("number", 11)]) (wi := (iList K (tVar 3))) (g := (gName 11)) (tt := tYes) (te := (tOp zMul (tC (.int 3)) (tVar 11))) rfl sc__law_right.nd (pi_list (pv 3)) (blkOk_by (N := ["kiln", "turn", "letters_here", "weights_here", "due", "told", "some", "k", "fresh", "each", "holds_here", "number", "said"]) (sc := defScope s__law_right) (by decide +kernel)) (fun _ _ _ _ _ => (pg_name (i := 11) sc__law_right.nd rfl (by first | exact Or.inl rfl | exact Or.inr rfl))) (fun _ _ _ _ _ => pts_nil) (fun _ _ _ _ _ => (pe_op o_mul pe_int (pv 11)))) (pa_cons (pe_call G__law_weights (hr.mono (by decide)) rfl m__law_weights k__law_weights b__law_weights .nil pass0 (pa_cons (pv 0) (pa_cons (pe_callB (r := zLen K) (by exact c_len) (by rfl) B.len PySem.boot_len (pa_cons (pv 2) pa_nil)) pa_nil))) pa_nil))))) (pss_cons (ps_for PassesOwn.never rfl (pi_range1 rfl B.range (pa_cons (pe_callB (r := zLen K) (by exact c_len) (by rfl) B.len PySem.boot_len (pa_cons (pv 3) pa_nil)) pa_nil)) (pg_name (i := 7) sc__law_right.nd rfl (by first | exact Or.inl rfl | exact Or.inr rfl)) (pss_cons (ps_set (i := 8) sc__law_right.nd rfl (by first | exact Or.inl rfl | exact Or.inr rfl) (pe_callTy (r := zList K) (by exact c_list) (by rfl) B.list (by decide +kernel) (pa_cons (pv 3) pa_nil))) (pss_cons (ps_asg (pe_op o_add (pe_ix (r := (rIxL K)) (by exact ix_list) (pv 8) (pv 7) (fun _ _ => rfl)) pe_int) (pg_sub (pv 8) (pv 7) set_list)) (pss_one (ps_expr (pe_bm (r := rAppend) PySem.F.plainAttrs_list PySem.F.slot_list_append PySem.F.type_list_append mt_append (pv 6) (pa_cons (pv 8) pa_nil))))))) (pss_one (ps_for PassesOwn.never rfl (pi_list (pv 6)) (pg_name (i := 9) sc__law_right.nd rfl (by first | exact Or.inl rfl | exact Or.inr rfl)) (pss_cons (ps_set (i := 10) sc__law_right.nd rfl (by first | exact Or.inl rfl | exact Or.inr rfl) (pe_cmpR (op_eqD hr True.intro) (pe_lc (own := [("said", 12)]) (wi := (iTup K (tVar 5))) (g := (gName 12)) (tt := (tNot (tB (tCall (spD K (Zk p) S__law_holds) [] E0 (tCons (tVar 2) (tCons (tVar 12) (tCons (tVar 9) tNil))))))) (te := (tVar 12)) rfl sc__law_right.nd (pi_tup (pv 5)) (blkOk_by (N := ["kiln", "turn", "letters_here", "weights_here", "due", "told", "some", "k", "fresh", "each", "holds_here", "number", "said"]) (sc := defScope s__law_right) (by decide +kernel)) (fun _ _ _ _ _ => (pg_name (i := 12) sc__law_right.nd rfl (by first | exact Or.inl rfl | exact Or.inr rfl))) (fun _ _ _ _ _ => (pts_one (pt_not (pt_val (pe_call G__law_holds (hr.mono (by decide)) rfl m__law_holds k__law_holds b__law_holds .nil pass0 (pa_cons (pv 2) (pa_cons (pv 12) (pa_cons (pv 9) pa_nil)))))))) (fun _ _ _ _ _ => (pv 12))) (pe_lst pa_nil) (nomark _))) (pss_one (ps_if (pt_cmpR op_ne (pv 10) (pe_cmpR (op_eqD hr True.intro) (pe_call G__law_order (hr.mono (by decide)) rfl m__law_order k__law_order b__law_order .nil pass0 (pa_cons (pv 2) (pa_cons (pv 9) pa_nil))) (pv 4) (nomark _)) (nomark _)) (pss_one (ps_ret pe_bl)) pss_nil)))))))))))))) (pss_one (ps_ret pe_bl))), (s_seq (s_for (s_iRng1 (s_cons s_int s_nil)) s_gName (s_seq (s_set (s_call (s_cons s_var (s_cons (s_op k_add s_int (s_call (s_cons s_var (s_cons s_int s_nil)))) s_nil)))) (s_seq (s_set (s_call (s_cons s_var (s_cons (s_cb k_len (s_cons s_var s_nil)) s_nil)))) (s_seq (s_set (s_call (s_cons s_var (s_cons s_var s_nil)))) (s_for (s_iList (s_lst (s_cons (s_call (s_cons s_var (s_cons s_var s_nil))) (s_cons (s_kw (gD := List.reverse) Rs.rv (s_cons s_var (s_cons s_var s_nil))) s_nil)))) s_gName (s_seq (s_ifS (s_not (s_tB (s_call (s_cons s_var (s_cons s_var s_nil))))) (s_ret s_bl) s_next) (s_seq (s_own (s_lst (s_cons s_var (s_cons (s_lc (s_iList s_var) s_gName s_yes (s_op k_mul s_int s_var) (by decide)) (s_cons (s_call (s_cons s_var (s_cons (s_cb k_len (s_cons s_var s_nil)) s_nil))) s_nil))))) (s_seq (s_for (s_iRng1 (s_cons (s_cb k_len (s_cons s_var s_nil)) s_nil)) s_gName (s_seq (s_own (s_cb k_list (s_cons s_var s_nil))) (s_seq (s_setI (s_op k_add (s_op s_ixL s_var s_var) s_int) s_var) (s_rel (i := 8) (s_app s_var))))) (s_rel (i := 6) (s_for (s_iList s_var) s_gName (s_seq (s_set (s_op s_eqD (s_lc (s_iTup s_var) s_gName (s_not (s_tB (s_call (s_cons s_var (s_cons s_var (s_cons s_var s_nil)))))) s_var (by decide)) (s_lst s_nil))) (s_ifS (s_test (s_op s_ne s_var (s_op s_eqD (s_call (s_cons s_var (s_cons s_var s_nil))) s_var))) (s_ret s_bl) s_next)))))))))))) (s_ret s_bl)), fun ds Q h => ?_⟩
  obtain ⟨rfl, q⟩ := h
  show (pSeq _ _) _ (rho _ [Dt.raw (.ref p)])
  refine seq_step fun N hN => ?_
  walk_at "pp"
  refine ⟨by decide, by decide, ?_⟩
  unfold rng
  have sz : ∀ n : Nat, n ≤ 1000 → n ≤ sizeLine := fun n h => by rw [sizeLine_eq]; omega
  refine for_inv (fun i : Nat => Dt.int (0 + (i : Int))) (fun rest ρ => ∃ a1 a2 a3 a4 a5 a6 a7 a8 a9 a10 a11 a12 : Sl, ρ = [Sl.sh (Dt.raw (V.ref p)), a1, a2, a3, a4, a5, a6, a7, a8, a9, a10, a11, a12]) (fun c0 rest ρ hi nx k => ?_) (fun ρ hi => ?_) _ _ ⟨_, _, _, _, _, _, _, _, _, _, _, _, rfl⟩
  · obtain ⟨a1, a2, a3, a4, a5, a6, a7, a8, a9, a10, a11, a12, rfl⟩ := hi
    refine tgt_step fun M hM => ?_
    walk_at "pp"
    subst hM
    refine seq_step fun M hM => ?_
    walk_at "pp"
    refine scoop_of (by decide) (by decide) fun r r0 r1 => ?_
    walk_at "pp"
    obtain ⟨n, rfl⟩ : ∃ n : Nat, r = n := ⟨r.toNat, by omega⟩
    rw [show (2 : Int) + (n : Int) = ((2 + n : Nat) : Int) by omega]
    refine let_of (by omega) (by omega) fun z zc zl => ?_
    walk_at "pp"
    have z5 : z.cps.toList.length ≤ 5 := by omega
    have z2 := zc.lo
    subst hM
    refine seq_step fun M hM => ?_
    walk_at "pp"
    refine ⟨by rw [len_cps]; exact sz _ (by omega), ?_⟩
    rw [len_cps]
    refine wei_of (by omega) (by omega) fun ws hl hw h0 => ?_
    walk_at "pp"
    rw [nats_int]
    subst hM
    refine seq_step fun M hM => ?_
    walk_at "pp"
    refine ⟨z, ws, by rw [nats_int], zc, z5, hl, fun L ts ok it => ?_⟩
    walk_at "pp"
    have oo := ord_ok ok it
    have says := oo.says
    have sok := fun s hs => oo.sok (s := s) hs
    have key : ∀ (us ts' : List Nat) (L' : List Str), us.length = z.cps.toList.length → LOK z L' → IsTs L' (fun y => lotN z y us) ts' → ((∀ s ∈ withinF (ordF L (fun y => lotN z y ws) ts) ++ betweenF (ordF L (fun y => lotN z y ws) ts), holdsF z s (intL us) = true) ↔ ordF L' (fun y => lotN z y us) ts' = ordF L (fun y => lotN z y ws) ts) ∧ OrdOk z (ordF L' (fun y => lotN z y us) ts') := fun us ts' L' ul ok' it' => by
      have e := ok'.eq ok
      subst e
      refine ⟨?_, ord_ok ok' it'⟩
      rw [← says_ord it it']
      exact ⟨fun h s hs => (holds_Hs (says s hs).1 (says s hs).2.1).mp (h s hs), fun h s hs => (holds_Hs (says s hs).1 (says s hs).2.1).mpr (h s hs)⟩

    generalize ordF L (fun y => lotN z y ws) ts = gs at *
    clear it ok
    have wl := within_len gs
    have bl := between_len gs
    have gl := oo.len
    have fl := oo.inv.2
    have sl : (withinF gs ++ betweenF gs).length ≤ 64 := by rw [List.length_append]; omega
    have il : (intL ws).length = ws.length := by unfold intL; rw [List.length_map]
    subst hM
    walk_at "pp"
    refine ⟨z, gs, rfl, oo, ?_⟩
    walk_at "pp"
    refine ⟨z, gs, rfl, oo, ?_⟩
    walk_at "pp"
    refine ⟨by rw [sizeLine_eq]; decide, ?_⟩
    generalize withinF gs ++ betweenF gs = ss at *
    rw [show [Dt.tup (ss.map sayD), Dt.tup (ss.map sayD)] = List.map (fun _ : Unit => Dt.tup (ss.map sayD)) [(), ()] from rfl]
    refine for_inv (fun _ : Unit => Dt.tup (ss.map sayD)) (fun rest ρ => ∃ b5 b6 b7 b8 b9 b10 b11 b12 : Sl, ρ = [Sl.sh (Dt.raw (V.ref p)), Sl.sh (Dt.int (0 + (c0 : Int))), Sl.sh (Dt.str z), Sl.sh (Dt.lst ((intL ws).map Dt.int)), Sl.sh (Dt.tup (gs.map grpD)), b5, b6, b7, b8, b9, b10, b11, b12]) (fun u0 rest ρ hi nx2 k2 => ?_) (fun ρ hi => ?_) [(), ()] _ ⟨_, _, _, _, _, _, _, _, rfl⟩
    · obtain ⟨b5, b6, b7, b8, b9, b10, b11, b12, rfl⟩ := hi
      refine tgt_step fun M hM => ?_
      walk_at "pp"
      subst hM
      refine seq_step fun M hM => ?_
      walk_at "pp"
      refine ⟨z, ss, rfl, zc, z5, says, ?_⟩
      walk_at "pp"
      subst hM
      refine seq_step fun M hM => ?_
      walk_at "pp"
      refine lc_map Dt.int (fun x : Int => Dt.int (3 * x)) (fun x hx Y S y => ?_) (by rw [List.length_nil]; omega) ?_
      · unfold turnC
        walk_at "pp"
        exact ⟨.inl ⟨by decide, by decide⟩, y⟩
      rw [List.nil_append]
      refine ⟨by rw [len_cps]; exact sz _ (by omega), ?_⟩
      rw [len_cps]
      refine wei_of (by omega) (by omega) fun vs vl vw v0 => ?_
      walk_at "pp"
      rw [nats_int]
      refine ⟨by rw [sizeLine_eq]; decide, ?_⟩
      have e3 : (intL ws).map (fun x : Int => Dt.int (3 * x)) = (intL (ws.map (3 * ·))).map Dt.int := by
        unfold intL
        rw [List.map_map, List.map_map, List.map_map]
        refine List.map_congr_left fun n _ => ?_
        show Dt.int (3 * (n : Int)) = Dt.int ((3 * n : Nat) : Int)
        congr 1
      rw [e3]
      have e4 : [Dt.lst ((intL ws).map Dt.int), Dt.lst ((intL (ws.map (3 * ·))).map Dt.int), Dt.lst ((intL vs).map Dt.int)] = [ws, ws.map (3 * ·), vs].map (fun us => Dt.lst ((intL us).map Dt.int)) := rfl
      rw [e4]
      have u3 : ([ws, ws.map (3 * ·), vs]).length ≤ 3 := Nat.le_refl _
      have ul : ∀ us ∈ [ws, ws.map (3 * ·), vs], us.length = z.cps.toList.length := by
        intro us hus
        simp only [List.mem_cons, List.not_mem_nil, or_false] at hus
        rcases hus with rfl | rfl | rfl
        · exact hl
        · rw [List.length_map]
          exact hl
        · exact vl
      generalize [ws, ws.map (3 * ·), vs] = uss0 at *
      clear e4
      subst hM
      refine seq_step fun M hM => ?_
      walk_at "pp"
      rw [List.length_map, il]
      refine ⟨by omega, by omega, ?_⟩
      rw [Int.toNat_natCast]
      unfold rng
      refine for_inv (fun i : Nat => Dt.int (0 + (i : Int))) (fun rest ρ => ∃ (uss : List (List Nat)) (c7 c8 : Sl), ρ = [Sl.sh (Dt.raw (V.ref p)), Sl.sh (Dt.int (0 + (c0 : Int))), Sl.sh (Dt.str z), Sl.sh (Dt.lst ((intL ws).map Dt.int)), Sl.sh (Dt.tup (gs.map grpD)), Sl.sh (Dt.tup (ss.map sayD)), Sl.own (uss.map fun us => Dt.lst ((intL us).map Dt.int)), c7, c8, b9, b10, b11, b12] ∧ (∀ us ∈ uss, us.length = z.cps.toList.length) ∧ uss.length + rest.length ≤ 8 ∧ ∀ i ∈ rest, i < ws.length) (fun i rest ρ hi nx3 k3 => ?_) (fun ρ hi => ?_) _ _ ⟨uss0, b7, b8, rfl, ul, (by rw [List.length_range]; omega), fun i hi => List.mem_range.mp hi⟩
      · obtain ⟨uss, c7, c8, rfl, hus, hln, hir⟩ := hi
        rw [List.length_cons] at hln
        have hi' : i < ws.length := hir i List.mem_cons_self
        refine tgt_step fun M hM => ?_
        walk_at "pp"
        subst hM
        refine seq_step fun M hM => ?_
        walk_at "pp"
        subst hM
        refine seq_step fun M hM => ?_
        walk_at "pp"
        rw [at_mapI _ i (by omega)]
        walk_at "pp"
        have ix : ixN (List.map Dt.int (intL ws)).length (0 + (i : Int)) = some i := by
          unfold ixN
          rw [List.length_map, il, if_pos (by omega), if_pos (by omega)]
          congr 1
          omega
        rw [ix]
        have es : (List.map Dt.int (intL ws)).set i (Dt.int ((intL ws).getD i 0 + 1)) = (intL (ws.set i (ws.getD i 0 + 1))).map Dt.int := by
          rw [int_getD ws i hi', ← nats_int, ← nats_int]
          unfold natsD
          rw [List.map_set]
          congr 1
        show M [Sl.sh (Dt.raw (V.ref p)), Sl.sh (Dt.int (0 + (c0 : Int))), Sl.sh (Dt.str z), Sl.sh (Dt.lst (List.map Dt.int (intL ws))), Sl.sh (Dt.tup (List.map grpD gs)), Sl.sh (Dt.tup (List.map sayD ss)), Sl.own (List.map (fun us => Dt.lst (List.map Dt.int (intL us))) uss), Sl.sh (Dt.int (0 + (i : Int))), Sl.own ((List.map Dt.int (intL ws)).set i (Dt.int ((intL ws).getD i 0 + 1))), b9, b10, b11, b12]
        rw [es]
        subst hM
        walk_at "pp"
        refine ⟨by rw [List.length_map, sizeLine_eq]; omega, k3 _ ⟨uss ++ [ws.set i (ws.getD i 0 + 1)], Sl.sh (Dt.int (0 + (i : Int))), Sl.sh (.lst ((intL (ws.set i (ws.getD i 0 + 1))).map Dt.int)), by rw [List.map_append]; rfl, fun us h => ?_, by rw [List.length_append, List.length_singleton]; omega, fun j hj => hir j (List.mem_cons_of_mem _ hj)⟩⟩
        rcases List.mem_append.mp h with h | h
        · exact hus us h
        · rw [List.mem_singleton.mp h, List.length_set]
          exact hl
      · obtain ⟨uss, c7, c8, rfl, hus, hln, hir⟩ := hi
        show M _
        subst hM
        walk_at "pp"
        refine for_inv (fun us : List Nat => Dt.lst ((intL us).map Dt.int)) (fun rest ρ => ∃ (pre : List (List Nat)) (d9 d10 d12 : Sl), uss = pre ++ rest ∧ ρ = [Sl.sh (Dt.raw (V.ref p)), Sl.sh (Dt.int (0 + (c0 : Int))), Sl.sh (Dt.str z), Sl.sh (Dt.lst ((intL ws).map Dt.int)), Sl.sh (Dt.tup (gs.map grpD)), Sl.sh (Dt.tup (ss.map sayD)), Sl.sh (.lst (uss.map fun us => Dt.lst ((intL us).map Dt.int))), c7, c8, d9, d10, b11, d12]) (fun us rest ρ hi nx3 k3 => ?_) (fun ρ hi => ?_) _ _ ⟨[], b9, b10, b12, rfl, rfl⟩
        · obtain ⟨pre, d9, d10, d12, e, rfl⟩ := hi
          have ule : us.length = z.cps.toList.length := hus us (by rw [e]; simp)
          have xl : z.cps.toList.length ≤ (intL us).length := by unfold intL; rw [List.length_map]; omega
          refine tgt_step fun M hM => ?_
          walk_at "pp"
          subst hM
          refine seq_step fun M hM => ?_
          walk_at "pp"
          refine lc_fm sayD (fun s => !holdsF z s (intL us)) sayD (fun s hs Y S y1 y2 => ?_) (by rw [List.length_nil]; omega) ?_
          · obtain ⟨t, ht⟩ : ∃ t, sayD s = .tup t := ⟨_, rfl⟩
            rw [ht] at y1 ⊢
            unfold turnC
            walk_at "pp"
            refine lholds_of ht.symm zc (sok s hs) xl ?_
            walk_at "pp"
            exact Pv.ite2 y1 y2
          rw [List.nil_append]
          refine ⟨Nat.zero_le _, ?_⟩
          have fs : ∀ s ∈ ss.filter fun s => !holdsF z s (intL us), SayOk z s := fun s h => sok s (List.mem_filter.mp h).1
          have key1 := fun ts' L' => key us ts' L' ule
          have all0 : (∀ s ∈ ss, holdsF z s (intL us) = true) ↔ (ss.filter fun s => !holdsF z s (intL us)) = [] := by
            rw [List.filter_eq_nil_iff]
            exact ⟨fun h s hs => by rw [h s hs]; decide, fun h s hs => by have := h s hs; simpa using this⟩
          rw [all0] at key1
          generalize (ss.filter fun s => !holdsF z s (intL us)) = fl0 at *
          have pf : pds (fl0.map sayD) = some (fl0.map sayP) := pds_says fl0
          refine eqd_of (p := .list (fl0.map sayP)) (q := .list []) (by show (pds _).map PyData.list = _; rw [pf]; rfl) rfl (lay_says zc fs) rfl (by show PyData.depthAll _ + 1 ≤ 40; have := dep_says fl0; omega) (by decide) (b := decide (fl0 = [])) (by cases fl0 <;> rfl) ?_
          walk_at "pp"
          subst hM
          walk_at "pp"
          refine ⟨z, us, by rw [nats_int], zc, z5, ule, fun L' ts' ok' it' => ?_⟩
          walk_at "pp"
          obtain ⟨kk, oo'⟩ := key1 ts' L' ok' it'
          generalize ordF L' (fun y => lotN z y us) ts' = gs' at *
          refine eqd_of (p := ordP gs') (q := ordP gs) (pd_ord _) (pd_ord _) oo'.lay oo.lay (dep_ord _) (dep_ord _) (eqv_ord _ _) ?_
          walk_at "pp"
          have eb : (!decide (decide (fl0 = []) = decide (gs' = gs))) = false := by
            have e : decide (fl0 = []) = decide (gs' = gs) := by
              by_cases h : fl0 = []
              · rw [decide_eq_true h, decide_eq_true (kk.mp h)]
              · rw [decide_eq_false h, decide_eq_false fun z => h (kk.mpr z)]
            rw [e]
            simp
          refine Pv.ite2 (fun z => absurd z (by rw [eb]; decide)) fun _ => ?_
          exact k3 _ ⟨pre ++ [us], Sl.sh (Dt.lst ((intL us).map Dt.int)), Sl.sh (Dt.bl (decide (fl0 = []))), d12, by rw [e]; simp, rfl⟩
        · obtain ⟨pre, d9, d10, d12, e, rfl⟩ := hi
          show nx2 _
          exact k2 _ ⟨_, _, _, _, _, _, _, _, rfl⟩
    · obtain ⟨b5, b6, b7, b8, b9, b10, b11, b12, rfl⟩ := hi
      exact k _ ⟨_, _, _, _, _, _, _, _, _, _, _, _, rfl⟩
  · obtain ⟨a1, a2, a3, a4, a5, a6, a7, a8, a9, a10, a11, a12, rfl⟩ := hi
    show N _
    subst hN
    walk_at "pp"
    exact q
end
end Lw

set_option maxRecDepth 100000
set_option maxHeartbeats 4000000
namespace Lw
open PySem PySem.Spec PyProof.Rows L2 Xv Pv
local macro_rules | `(tactic| walk_at "pp") => `(tactic| simp only [rho, List.map_cons, List.map_nil, List.length_cons, List.length_nil, Nat.reduceAdd, Nat.reduceSub, List.replicate_zero, List.replicate_succ, List.cons_append, List.nil_append, a_pSeq, a_pRet, a_pRetN, a_pNext, a_pIfS, a_pSet, a_pOwn, a_pDrop, a_pPar, a_pPar3, a_pApp, a_pSetI, a_pAsg, a_pNever, a_pV, a_pC, a_pOp, a_pUn, a_pCB, a_pNil, a_pCons, a_pTest, a_pAnd, a_pOr, a_pNot, a_pAndV, a_pOrV, a_pNotV, a_pIf, a_pTup, a_pLst, a_pCall, a_pKw, a_pBMs, a_pChain, a_pOrT, a_pNotT, a_pThen, a_pSl, a_pNoPart, a_pPart, a_pLc, a_pFor, a_piList, a_piTup, a_piStr, a_piRng1, a_piRng2, a_piZip, a_piEnum, a_pYes, bD, iD, sD, lD, tD, oD, ownD, cl, cls, rv, asL, a_p0I, a_pCI, a_pEq, a_pAddS, a_pCat, a_pCatT, a_pIxL, a_pIxT, a_pIxS, a_pNeg, a_pSlL, a_pSlT, a_pSlS, a_qLen, a_qInt, a_qAbs, a_qMax, a_qMin, a_qStrI, a_qIsi, a_qSum, a_qAll, a_qAny, a_qList, a_qTup, a_mJoin, tyD, clD, truD, okT, wd_lst, wd_fre, wd_tup, wd_str, a_pgName, pgTup, pgCons, pgNil, a_pgStar, kit_ss, kit_si, kit_sb, kit_st, kit_ii, kit_ib, kit_is, kit_it, kit_tt, kit_ts, kit_ti, kit_bi, kit_bb, kit_bs, kit_bt, Bool.not_true, Bool.not_false, if_false, reduceCtorEq, Nat.reduceLT, Int.reduceLE, Int.reduceLT, Int.reduceEq, decide_true, decide_false, wipeP, List.getElem?_cons_zero, List.getElem?_cons_succ, List.getElem?_nil, List.set_cons_zero, List.set_cons_succ, Option.map_some, if_true, Bool.false_eq_true, and_true, true_and, List.append_nil, a_qFn, at0, at1, at2, at3, a_pRet2, a_pRel, a_piRng3, a_pParO, eq_self, List.take_succ_cons, List.take_zero, List.drop_succ_cons, List.drop_zero, List.singleton_append, Nat.reduceLeDiff, Option.map_none, Option.toList_some, Option.toList_none, a_qMaxL, a_qRg1, a_piRg, a_pFld, a_qIsO, a_pProp, a_pRevT, a_pSlA, a_pMeth, a_pParSO, a_pAppPop, a_qListS, a_qSortS, a_pSortSet, a_pLtS, a_pTruT, a_pInL, a_pLc2, a_qSortS, a_pRevT, Int.natAbs_natCast])
section
variable {P : Program} {w : World} {K : PySem.W.Frag} {mg : Str → Option Value} {base : Heap} {Z : Pv.Zc}
local macro_rules | `(tactic| walk_at "pp") => `(tactic| simp only [rho, List.map_cons, List.map_nil, List.length_cons, List.length_nil, Nat.reduceAdd, Nat.reduceSub, List.replicate_zero, List.replicate_succ, List.cons_append, List.nil_append, a_pSeq, a_pRet, a_pRetN, a_pNext, a_pIfS, a_pSet, a_pOwn, a_pDrop, a_pPar, a_pPar3, a_pApp, a_pSetI, a_pAsg, a_pNever, a_pV, a_pC, a_pOp, a_pUn, a_pCB, a_pNil, a_pCons, a_pTest, a_pAnd, a_pOr, a_pNot, a_pAndV, a_pOrV, a_pNotV, a_pIf, a_pTup, a_pLst, a_pCall, a_pKw, a_pBMs, a_pChain, a_pOrT, a_pNotT, a_pThen, a_pSl, a_pNoPart, a_pPart, a_pLc, a_pFor, a_piList, a_piTup, a_piStr, a_piRng1, a_piRng2, a_piZip, a_piEnum, a_pYes, bD, iD, sD, lD, tD, oD, ownD, cl, cls, rv, asL, a_p0I, a_pCI, a_pEq, a_pAddS, a_pCat, a_pCatT, a_pIxL, a_pIxT, a_pIxS, a_pNeg, a_pSlL, a_pSlT, a_pSlS, a_qLen, a_qInt, a_qAbs, a_qMax, a_qMin, a_qStrI, a_qIsi, a_qSum, a_qAll, a_qAny, a_qList, a_qTup, a_mJoin, tyD, clD, truD, okT, wd_lst, wd_fre, wd_tup, wd_str, a_pgName, pgTup, pgCons, pgNil, a_pgStar, kit_ss, kit_si, kit_sb, kit_st, kit_ii, kit_ib, kit_is, kit_it, kit_tt, kit_ts, kit_ti, kit_bi, kit_bb, kit_bs, kit_bt, Bool.not_true, Bool.not_false, if_false, reduceCtorEq, Nat.reduceLT, Int.reduceLE, Int.reduceLT, Int.reduceEq, decide_true, decide_false, wipeP, List.getElem?_cons_zero, List.getElem?_cons_succ, List.getElem?_nil, List.set_cons_zero, List.set_cons_succ, Option.map_some, if_true, Bool.false_eq_true, and_true, true_and, List.append_nil, a_qFn, at0, at1, at2, at3, a_pRet2, a_pRel, a_piRng3, a_pParO, eq_self, List.take_succ_cons, List.take_zero, List.drop_succ_cons, List.drop_zero, List.singleton_append, Nat.reduceLeDiff, Option.map_none, Option.toList_some, Option.toList_none, a_qMaxL, a_qRg1, a_piRg, a_pFld, a_qIsO, a_pProp, a_pRevT, a_pSlA, a_pMeth, a_pParSO, a_pAppPop, a_qListS, a_qSortS, a_pSortSet, a_pLtS, a_pTruT, a_pInL, a_pLc2, a_qSortS, a_pRevT, Int.natAbs_natCast])
theorem f_sayings_of {f : Addr} {fd : FuncData} (F : Fun K "sayings_of" "sayings_of" s_sayings_of f fd) (m : mg "sayings_of" = some (.ref f)) (B : Bn mg) (H_check_cases : Has P w K mg base Z "check_cases" 3 ["cases"] S_check_cases) (H__check_order : Has P w K mg base Z "_check_order" 4 ["cases", "order"] S__check_order) (H__sayings_of : Has P w K mg base Z "_sayings_of" 1 ["order"] S__sayings_of) : FnOk P w K mg base CX0 5 f fd ["cases", "order"] (spD K Z S_sayings_of) := by
  obtain ⟨f_check_cases, d_check_cases, m_check_cases, k_check_cases, b_check_cases, G_check_cases⟩ := H_check_cases.ex
  obtain ⟨f__check_order, d__check_order, m__check_order, k__check_order, b__check_order, G__check_order⟩ := H__check_order.ex
  obtain ⟨f__sayings_of, d__sayings_of, m__sayings_of, k__sayings_of, b__sayings_of, G__sayings_of⟩ := H__sayings_of.ex
  refine ok_D F sc_sayings_of (fun ds Q h => by obtain ⟨_, _, rfl, _⟩ := h; rfl) fun cdv A outer s H E hr => ?_
  refine ⟨_, _, (pss_cons (ps_expr (pe_call G_check_cases (hr.mono (by decide)) rfl m_check_cases k_check_cases b_check_cases .nil pass0 (pa_cons (pv 0) pa_nil))) (pss_cons (ps_expr (pe_call G__check_order (hr.mono (by decide)) rfl m__check_order k__check_order b__check_order .nil pass0 (pa_cons (pv 0) (pa_cons (pv 1) pa_nil)))) (pss_one (ps_ret (pe_call G__sayings_of (hr.mono (by decide)) rfl m__sayings_of k__sayings_of b__sayings_of .nil pass0 (pa_cons (pv 1) pa_nil)))))), (s_seq (s_drop (s_call (s_cons s_var s_nil))) (s_seq (s_drop (s_call (s_cons s_var (s_cons s_var s_nil)))) (s_ret (s_call (s_cons s_var s_nil))))), fun ds Q h => ?_⟩
  obtain ⟨z, gs, rfl, ok, q⟩ := h
  show (pSeq _ _) _ [Sl.sh (.str z), Sl.sh (.tup (gs.map grpD))]
  refine seq_step fun N hN => ?_
  walk_at "pp"
  refine ⟨z, rfl, ok.c, ?_⟩
  walk_at "pp"
  subst hN
  refine seq_step fun N hN => ?_
  walk_at "pp"
  refine ⟨z, gs, rfl, ok, ?_⟩
  walk_at "pp"
  subst hN
  walk_at "pp"
  refine ⟨gs, rfl, fun g hg => (ok.g g hg).1, ok.inv.2, ?_⟩
  walk_at "pp"
  exact q
end
end Lw

set_option maxRecDepth 100000
set_option maxHeartbeats 4000000
namespace Lw
open PySem PySem.Spec PyProof.Rows L2 Xv Pv
theorem walkL {l : PySem.W.OpenLaw} {q : Program} {loose : List Str} {XP : (Str → Option Value) → Heap → Prop} {YP : World → Heap → Prop} {d : DefRec} {K : Params → PySem.W.Frag}
    (hn : l.most = some 63) (hdf : d.params.defaults = []) (hY : ∀ (w : World) (h : Heap), YP w h → (K w.params).In h)
    (F : ∀ (w : World) (mg : Str → Option Value) (fa : Addr) (h : Heap), (K w.params).In h → h.Ns mainGlobals mg → mg d.name = some (.ref fa) →
      ∃ fd : FuncData, (∀ (s : Shared) (u : Value), BindsTo s fd ⟨[u], []⟩ [("cells", u)]) ∧ ∀ base : Heap, FnG l.prog w (K w.params) mg base CX0 10 fa fd ["cells"] (spLaw (K w.params))) :
    PySem.W.WalkO q loose XP YP l.row.toRowW d [] (fun f vs => PySem.call f vs) := by
  refine walkG (l := l) (n := 63) (k := 10) (x := "cells") (sp := fun w => spLaw (K w.params)) hn (by rw [sizeLine_eq]; decide) hdf ⟨rfl, by decide, by decide⟩ hY (fun w mg fa h KX G hmg => ?_) fun w H a ns hl hb hO hS => ⟨a, ns, rfl, hS, fun _ => rfl⟩
  obtain ⟨fd, h1, h2⟩ := F w mg fa h KX G hmg
  exact ⟨fd, h1, fun base _ _ => h2 base⟩
theorem Vals.rv {vs : List V} {us : List Value} (r : Vals vs us) : Vals vs.reverse us.reverse := by
  induction r with
  | nil => exact .nil
  | cons h _ ih =>
    rw [List.reverse_cons, List.reverse_cons]
    exact ih.append (.cons h .nil)
theorem mkF {K : PySem.W.Frag} {x qual : Str} {st : Stmt} {f : Addr} {oc : Value} {od an : Option Addr} {sl : Array (Option Value)} {kV dc pm cd ct : Value} (l : K.lookup f = some ⟨oc, od, .func (PySem.W.fnOf x qual (defArgs st) (defBody st) (defScope st) .none kV dc pm an cd ct), sl⟩) (c : PySem.W.codeIn K cd qual = true) (k : PySem.W.keepIn K (.ref f) = true) :
    Fun K x qual st f (PySem.W.fnOf x qual (defArgs st) (defBody st) (defScope st) .none kV dc pm an cd ct) := ⟨⟨oc, od, kV, dc, pm, an, cd, ct, sl, rfl, l, c⟩, k⟩
theorem fin {P : Program} {w : World} {K : PySem.W.Frag} {h : Heap} {mg : Str → Option Value} {fa : Addr} (X : K.In h) (G : h.Ns mainGlobals mg) (hfa : mg "law" = some (.ref fa))
    {f0 : Addr} (a0 : PySem.W.nsIn K mainGlobals "is_lot" = some (some (.ref f0)))
    {oc0 : Value} {od0 an0 : Option Addr} {sl0 : Array (Option Value)} {kV0 dc0 pm0 cd0 ct0 : Value} (l0 : K.lookup f0 = some ⟨oc0, od0, .func (PySem.W.fnOf "is_lot" "is_lot" (defArgs s_is_lot) (defBody s_is_lot) (defScope s_is_lot) .none kV0 dc0 pm0 an0 cd0 ct0), sl0⟩)
     (cc0 : PySem.W.codeIn K cd0 "is_lot" = true)
     (k0 : PySem.W.keepIn K (.ref f0) = true)
    {f1 : Addr} (a1 : PySem.W.nsIn K mainGlobals "lots_of" = some (some (.ref f1)))
    {oc1 : Value} {od1 an1 : Option Addr} {sl1 : Array (Option Value)} {kV1 dc1 pm1 cd1 ct1 : Value} (l1 : K.lookup f1 = some ⟨oc1, od1, .func (PySem.W.fnOf "lots_of" "lots_of" (defArgs s_lots_of) (defBody s_lots_of) (defScope s_lots_of) .none kV1 dc1 pm1 an1 cd1 ct1), sl1⟩)
     (cc1 : PySem.W.codeIn K cd1 "lots_of" = true)
     (k1 : PySem.W.keepIn K (.ref f1) = true)
    {f2 : Addr} (a2 : PySem.W.nsIn K mainGlobals "are_cases" = some (some (.ref f2)))
    {oc2 : Value} {od2 an2 : Option Addr} {sl2 : Array (Option Value)} {kV2 dc2 pm2 cd2 ct2 : Value} (l2 : K.lookup f2 = some ⟨oc2, od2, .func (PySem.W.fnOf "are_cases" "are_cases" (defArgs s_are_cases) (defBody s_are_cases) (defScope s_are_cases) .none kV2 dc2 pm2 an2 cd2 ct2), sl2⟩)
     (cc2 : PySem.W.codeIn K cd2 "are_cases" = true)
     (k2 : PySem.W.keepIn K (.ref f2) = true)
    {f3 : Addr} (a3 : PySem.W.nsIn K mainGlobals "check_cases" = some (some (.ref f3)))
    {oc3 : Value} {od3 an3 : Option Addr} {sl3 : Array (Option Value)} {kV3 dc3 pm3 cd3 ct3 : Value} (l3 : K.lookup f3 = some ⟨oc3, od3, .func (PySem.W.fnOf "check_cases" "check_cases" (defArgs s_check_cases) (defBody s_check_cases) (defScope s_check_cases) .none kV3 dc3 pm3 an3 cd3 ct3), sl3⟩)
     (cc3 : PySem.W.codeIn K cd3 "check_cases" = true)
     (k3 : PySem.W.keepIn K (.ref f3) = true)
    {f4 : Addr} (a4 : PySem.W.nsIn K mainGlobals "_is_group" = some (some (.ref f4)))
    {oc4 : Value} {od4 an4 : Option Addr} {sl4 : Array (Option Value)} {kV4 dc4 pm4 cd4 ct4 : Value} (l4 : K.lookup f4 = some ⟨oc4, od4, .func (PySem.W.fnOf "_is_group" "_is_group" (defArgs s__is_group) (defBody s__is_group) (defScope s__is_group) .none kV4 dc4 pm4 an4 cd4 ct4), sl4⟩)
     (cc4 : PySem.W.codeIn K cd4 "_is_group" = true)
     (k4 : PySem.W.keepIn K (.ref f4) = true)
    {f5 : Addr} (a5 : PySem.W.nsIn K mainGlobals "_is_order" = some (some (.ref f5)))
    {oc5 : Value} {od5 an5 : Option Addr} {sl5 : Array (Option Value)} {kV5 dc5 pm5 cd5 ct5 : Value} (l5 : K.lookup f5 = some ⟨oc5, od5, .func (PySem.W.fnOf "_is_order" "_is_order" (defArgs s__is_order) (defBody s__is_order) (defScope s__is_order) .none kV5 dc5 pm5 an5 cd5 ct5), sl5⟩)
     (cc5 : PySem.W.codeIn K cd5 "_is_order" = true)
     (k5 : PySem.W.keepIn K (.ref f5) = true)
    {f6 : Addr} (a6 : PySem.W.nsIn K mainGlobals "_check_order" = some (some (.ref f6)))
    {oc6 : Value} {od6 an6 : Option Addr} {sl6 : Array (Option Value)} {kV6 dc6 pm6 cd6 ct6 : Value} (l6 : K.lookup f6 = some ⟨oc6, od6, .func (PySem.W.fnOf "_check_order" "_check_order" (defArgs s__check_order) (defBody s__check_order) (defScope s__check_order) .none kV6 dc6 pm6 an6 cd6 ct6), sl6⟩)
     (cc6 : PySem.W.codeIn K cd6 "_check_order" = true)
     (k6 : PySem.W.keepIn K (.ref f6) = true)
    {f7 : Addr} (a7 : PySem.W.nsIn K mainGlobals "_sayings_of" = some (some (.ref f7)))
    {oc7 : Value} {od7 an7 : Option Addr} {sl7 : Array (Option Value)} {kV7 dc7 pm7 cd7 ct7 : Value} (l7 : K.lookup f7 = some ⟨oc7, od7, .func (PySem.W.fnOf "_sayings_of" "_sayings_of" (defArgs s__sayings_of) (defBody s__sayings_of) (defScope s__sayings_of) .none kV7 dc7 pm7 an7 cd7 ct7), sl7⟩)
     (cc7 : PySem.W.codeIn K cd7 "_sayings_of" = true)
     (k7 : PySem.W.keepIn K (.ref f7) = true)
    {f8 : Addr} (a8 : PySem.W.nsIn K mainGlobals "sayings_of" = some (some (.ref f8)))
    {oc8 : Value} {od8 an8 : Option Addr} {sl8 : Array (Option Value)} {kV8 dc8 pm8 cd8 ct8 : Value} (l8 : K.lookup f8 = some ⟨oc8, od8, .func (PySem.W.fnOf "sayings_of" "sayings_of" (defArgs s_sayings_of) (defBody s_sayings_of) (defScope s_sayings_of) .none kV8 dc8 pm8 an8 cd8 ct8), sl8⟩)
     (cc8 : PySem.W.codeIn K cd8 "sayings_of" = true)
     (k8 : PySem.W.keepIn K (.ref f8) = true)
    {f9 : Addr} (a9 : PySem.W.nsIn K mainGlobals "_law_kiln" = some (some (.ref f9)))
    {oc9 : Value} {od9 an9 : Option Addr} {sl9 : Array (Option Value)} {kV9 dc9 pm9 cd9 ct9 : Value} (l9 : K.lookup f9 = some ⟨oc9, od9, .func (PySem.W.fnOf "_law_kiln" "_law_kiln" (defArgs sKiln) (defBody sKiln) (defScope sKiln) .none kV9 dc9 pm9 an9 cd9 ct9), sl9⟩)
     (cc9 : PySem.W.codeIn K cd9 "_law_kiln" = true)
     (k9 : PySem.W.keepIn K (.ref f9) = true)
    {f10 : Addr} (a10 : PySem.W.nsIn K mainGlobals "_law_scoop" = some (some (.ref f10)))
    {oc10 : Value} {od10 an10 : Option Addr} {sl10 : Array (Option Value)} {kV10 dc10 pm10 cd10 ct10 : Value} (l10 : K.lookup f10 = some ⟨oc10, od10, .func (PySem.W.fnOf "_law_scoop" "_law_scoop" (defArgs sScoop) (defBody sScoop) (defScope sScoop) .none kV10 dc10 pm10 an10 cd10 ct10), sl10⟩)
     (cc10 : PySem.W.codeIn K cd10 "_law_scoop" = true)
     (k10 : PySem.W.keepIn K (.ref f10) = true)
    {f11 : Addr} (a11 : PySem.W.nsIn K mainGlobals "_law_letters" = some (some (.ref f11)))
    {oc11 : Value} {od11 an11 : Option Addr} {sl11 : Array (Option Value)} {kV11 dc11 pm11 cd11 ct11 : Value} (l11 : K.lookup f11 = some ⟨oc11, od11, .func (PySem.W.fnOf "_law_letters" "_law_letters" (defArgs s__law_letters) (defBody s__law_letters) (defScope s__law_letters) .none kV11 dc11 pm11 an11 cd11 ct11), sl11⟩)
     (cc11 : PySem.W.codeIn K cd11 "_law_letters" = true)
     (k11 : PySem.W.keepIn K (.ref f11) = true)
    {f12 : Addr} (a12 : PySem.W.nsIn K mainGlobals "_law_lots" = some (some (.ref f12)))
    {oc12 : Value} {od12 an12 : Option Addr} {sl12 : Array (Option Value)} {kV12 dc12 pm12 cd12 ct12 : Value} (l12 : K.lookup f12 = some ⟨oc12, od12, .func (PySem.W.fnOf "_law_lots" "_law_lots" (defArgs s__law_lots) (defBody s__law_lots) (defScope s__law_lots) .none kV12 dc12 pm12 an12 cd12 ct12), sl12⟩)
     (cc12 : PySem.W.codeIn K cd12 "_law_lots" = true)
     (k12 : PySem.W.keepIn K (.ref f12) = true)
    {f13 : Addr} (a13 : PySem.W.nsIn K mainGlobals "_law_lean" = some (some (.ref f13)))
    {oc13 : Value} {od13 an13 : Option Addr} {sl13 : Array (Option Value)} {kV13 dc13 pm13 cd13 ct13 : Value} (l13 : K.lookup f13 = some ⟨oc13, od13, .func (PySem.W.fnOf "_law_lean" "_law_lean" (defArgs s__law_lean) (defBody s__law_lean) (defScope s__law_lean) .none kV13 dc13 pm13 an13 cd13 ct13), sl13⟩)
     (cc13 : PySem.W.codeIn K cd13 "_law_lean" = true)
     (k13 : PySem.W.keepIn K (.ref f13) = true)
    {f14 : Addr} (a14 : PySem.W.nsIn K mainGlobals "_law_worth" = some (some (.ref f14)))
    {oc14 : Value} {od14 an14 : Option Addr} {sl14 : Array (Option Value)} {kV14 dc14 pm14 cd14 ct14 : Value} (l14 : K.lookup f14 = some ⟨oc14, od14, .func (PySem.W.fnOf "_law_worth" "_law_worth" (defArgs s__law_worth) (defBody s__law_worth) (defScope s__law_worth) .none kV14 dc14 pm14 an14 cd14 ct14), sl14⟩)
     (cc14 : PySem.W.codeIn K cd14 "_law_worth" = true)
     (k14 : PySem.W.keepIn K (.ref f14) = true)
    {f15 : Addr} (a15 : PySem.W.nsIn K mainGlobals "_law_holds" = some (some (.ref f15)))
    {oc15 : Value} {od15 an15 : Option Addr} {sl15 : Array (Option Value)} {kV15 dc15 pm15 cd15 ct15 : Value} (l15 : K.lookup f15 = some ⟨oc15, od15, .func (PySem.W.fnOf "_law_holds" "_law_holds" (defArgs s__law_holds) (defBody s__law_holds) (defScope s__law_holds) .none kV15 dc15 pm15 an15 cd15 ct15), sl15⟩)
     (cc15 : PySem.W.codeIn K cd15 "_law_holds" = true)
     (k15 : PySem.W.keepIn K (.ref f15) = true)
    {f16 : Addr} (a16 : PySem.W.nsIn K mainGlobals "_law_weights" = some (some (.ref f16)))
    {oc16 : Value} {od16 an16 : Option Addr} {sl16 : Array (Option Value)} {kV16 dc16 pm16 cd16 ct16 : Value} (l16 : K.lookup f16 = some ⟨oc16, od16, .func (PySem.W.fnOf "_law_weights" "_law_weights" (defArgs s__law_weights) (defBody s__law_weights) (defScope s__law_weights) .none kV16 dc16 pm16 an16 cd16 ct16), sl16⟩)
     (cc16 : PySem.W.codeIn K cd16 "_law_weights" = true)
     (k16 : PySem.W.keepIn K (.ref f16) = true)
    {f17 : Addr} (a17 : PySem.W.nsIn K mainGlobals "_law_total" = some (some (.ref f17)))
    {oc17 : Value} {od17 an17 : Option Addr} {sl17 : Array (Option Value)} {kV17 dc17 pm17 cd17 ct17 : Value} (l17 : K.lookup f17 = some ⟨oc17, od17, .func (PySem.W.fnOf "_law_total" "_law_total" (defArgs s__law_total) (defBody s__law_total) (defScope s__law_total) .none kV17 dc17 pm17 an17 cd17 ct17), sl17⟩)
     (cc17 : PySem.W.codeIn K cd17 "_law_total" = true)
     (k17 : PySem.W.keepIn K (.ref f17) = true)
    {f18 : Addr} (a18 : PySem.W.nsIn K mainGlobals "_law_order" = some (some (.ref f18)))
    {oc18 : Value} {od18 an18 : Option Addr} {sl18 : Array (Option Value)} {kV18 dc18 pm18 cd18 ct18 : Value} (l18 : K.lookup f18 = some ⟨oc18, od18, .func (PySem.W.fnOf "_law_order" "_law_order" (defArgs s__law_order) (defBody s__law_order) (defScope s__law_order) .none kV18 dc18 pm18 an18 cd18 ct18), sl18⟩)
     (cc18 : PySem.W.codeIn K cd18 "_law_order" = true)
     (k18 : PySem.W.keepIn K (.ref f18) = true)
    {f19 : Addr} (a19 : PySem.W.nsIn K mainGlobals "_law_are_sayings" = some (some (.ref f19)))
    {oc19 : Value} {od19 an19 : Option Addr} {sl19 : Array (Option Value)} {kV19 dc19 pm19 cd19 ct19 : Value} (l19 : K.lookup f19 = some ⟨oc19, od19, .func (PySem.W.fnOf "_law_are_sayings" "_law_are_sayings" (defArgs s__law_are_sayings) (defBody s__law_are_sayings) (defScope s__law_are_sayings) .none kV19 dc19 pm19 an19 cd19 ct19), sl19⟩)
     (cc19 : PySem.W.codeIn K cd19 "_law_are_sayings" = true)
     (k19 : PySem.W.keepIn K (.ref f19) = true)
    {f20 : Addr} (a20 : PySem.W.nsIn K mainGlobals "_law_right" = some (some (.ref f20)))
    {oc20 : Value} {od20 an20 : Option Addr} {sl20 : Array (Option Value)} {kV20 dc20 pm20 cd20 ct20 : Value} (l20 : K.lookup f20 = some ⟨oc20, od20, .func (PySem.W.fnOf "_law_right" "_law_right" (defArgs s__law_right) (defBody s__law_right) (defScope s__law_right) .none kV20 dc20 pm20 an20 cd20 ct20), sl20⟩)
     (cc20 : PySem.W.codeIn K cd20 "_law_right" = true)
     (k20 : PySem.W.keepIn K (.ref f20) = true)
    {f21 : Addr} (a21 : PySem.W.nsIn K mainGlobals "law" = some (some (.ref f21)))
    {oc21 : Value} {od21 an21 : Option Addr} {sl21 : Array (Option Value)} {kV21 dc21 pm21 cd21 ct21 : Value} (l21 : K.lookup f21 = some ⟨oc21, od21, .func (PySem.W.fnOf "law" "law" (defArgs sLaw) (defBody sLaw) (defScope sLaw) .none kV21 dc21 pm21 an21 cd21 ct21), sl21⟩)
     (cc21 : PySem.W.codeIn K cd21 "law" = true)
     (k21 : PySem.W.keepIn K (.ref f21) = true)
     (z0 : PySem.W.nsIn K mainGlobals "len" = some none)
     (z1 : PySem.W.nsIn K mainGlobals "int" = some none)
     (z2 : PySem.W.nsIn K mainGlobals "abs" = some none)
     (z3 : PySem.W.nsIn K mainGlobals "max" = some none)
     (z4 : PySem.W.nsIn K mainGlobals "min" = some none)
     (z5 : PySem.W.nsIn K mainGlobals "range" = some none)
     (z6 : PySem.W.nsIn K mainGlobals "isinstance" = some none)
     (z7 : PySem.W.nsIn K mainGlobals "str" = some none)
     (z8 : PySem.W.nsIn K mainGlobals "bool" = some none)
     (z9 : PySem.W.nsIn K mainGlobals "tuple" = some none)
     (z10 : PySem.W.nsIn K mainGlobals "list" = some none)
     (z11 : PySem.W.nsIn K mainGlobals "sum" = some none)
     (z12 : PySem.W.nsIn K mainGlobals "zip" = some none)
     (z13 : PySem.W.nsIn K mainGlobals "enumerate" = some none)
     (z14 : PySem.W.nsIn K mainGlobals "repr" = some none)
    {ti0 : Tok} (ci0 : PySem.W.nsIn K mainGlobals "MOST_CASES" = some (some (.int 6 ti0)))
    {ti1 : Tok} (ci1 : PySem.W.nsIn K mainGlobals "LEAST_CASES" = some (some (.int 2 ti1)))
    {tv0 : Tok} (cs0 : PySem.W.nsIn K mainGlobals "LETTERS" = some (some (.str "abcdefghijklmnopqrstuvwxyz" tv0)))
     (y_sorted : PySem.W.nsIn K mainGlobals "sorted" = some none)
     (y_divmod : PySem.W.nsIn K mainGlobals "divmod" = some none)
     (y_all : PySem.W.nsIn K mainGlobals "all" = some none)
     (y_set : PySem.W.nsIn K mainGlobals "set" = some none)
    : ∃ fd : FuncData, (∀ (s : Shared) (u : Value), BindsTo s fd ⟨[u], []⟩ [("cells", u)]) ∧ ∀ base : Heap, FnG P w K mg base CX0 10 fa fd ["cells"] (spLaw K) := by
  have e := hfa.symm.trans (PySem.W.mg_of X G a21)
  cases e
  have B : Bn mg := ⟨PySem.W.mg_none_of X G z0, PySem.W.mg_none_of X G z1, PySem.W.mg_none_of X G z2, PySem.W.mg_none_of X G z3, PySem.W.mg_none_of X G z4, PySem.W.mg_none_of X G z5, PySem.W.mg_none_of X G z6, PySem.W.mg_none_of X G z7, PySem.W.mg_none_of X G z8, PySem.W.mg_none_of X G z9, PySem.W.mg_none_of X G z10, PySem.W.mg_none_of X G z11, PySem.W.mg_none_of X G z12, PySem.W.mg_none_of X G z13, PySem.W.mg_none_of X G z14⟩
  have C_MOST_CASES : ∃ t, mg "MOST_CASES" = some (.int 6 t) := ⟨_, PySem.W.mg_of X G ci0⟩
  have C_LEAST_CASES : ∃ t, mg "LEAST_CASES" = some (.int 2 t) := ⟨_, PySem.W.mg_of X G ci1⟩
  have C_LETTERS : ∃ t, mg "LETTERS" = some (.str "abcdefghijklmnopqrstuvwxyz" t) := ⟨_, PySem.W.mg_of X G cs0⟩
  have F0 := mkF (st := s_is_lot) l0 cc0 k0
  have M0 := PySem.W.mg_of X G a0
  have F1 := mkF (st := s_lots_of) l1 cc1 k1
  have M1 := PySem.W.mg_of X G a1
  have F2 := mkF (st := s_are_cases) l2 cc2 k2
  have M2 := PySem.W.mg_of X G a2
  have F3 := mkF (st := s_check_cases) l3 cc3 k3
  have M3 := PySem.W.mg_of X G a3
  have F4 := mkF (st := s__is_group) l4 cc4 k4
  have M4 := PySem.W.mg_of X G a4
  have F5 := mkF (st := s__is_order) l5 cc5 k5
  have M5 := PySem.W.mg_of X G a5
  have F6 := mkF (st := s__check_order) l6 cc6 k6
  have M6 := PySem.W.mg_of X G a6
  have F7 := mkF (st := s__sayings_of) l7 cc7 k7
  have M7 := PySem.W.mg_of X G a7
  have F8 := mkF (st := s_sayings_of) l8 cc8 k8
  have M8 := PySem.W.mg_of X G a8
  have F9 := mkF (st := sKiln) l9 cc9 k9
  have M9 := PySem.W.mg_of X G a9
  have F10 := mkF (st := sScoop) l10 cc10 k10
  have M10 := PySem.W.mg_of X G a10
  have F11 := mkF (st := s__law_letters) l11 cc11 k11
  have M11 := PySem.W.mg_of X G a11
  have F12 := mkF (st := s__law_lots) l12 cc12 k12
  have M12 := PySem.W.mg_of X G a12
  have F13 := mkF (st := s__law_lean) l13 cc13 k13
  have M13 := PySem.W.mg_of X G a13
  have F14 := mkF (st := s__law_worth) l14 cc14 k14
  have M14 := PySem.W.mg_of X G a14
  have F15 := mkF (st := s__law_holds) l15 cc15 k15
  have M15 := PySem.W.mg_of X G a15
  have F16 := mkF (st := s__law_weights) l16 cc16 k16
  have M16 := PySem.W.mg_of X G a16
  have F17 := mkF (st := s__law_total) l17 cc17 k17
  have M17 := PySem.W.mg_of X G a17
  have F18 := mkF (st := s__law_order) l18 cc18 k18
  have M18 := PySem.W.mg_of X G a18
  have F19 := mkF (st := s__law_are_sayings) l19 cc19 k19
  have M19 := PySem.W.mg_of X G a19
  have F20 := mkF (st := s__law_right) l20 cc20 k20
  have M20 := PySem.W.mg_of X G a20
  have F21 := mkF (st := sLaw) l21 cc21 k21
  have M21 := PySem.W.mg_of X G a21
  have B_sorted : mg "sorted" = none := PySem.W.mg_none_of X G y_sorted
  have B_all : mg "all" = none := PySem.W.mg_none_of X G y_all
  have B_set : mg "set" = none := PySem.W.mg_none_of X G y_set
  have TB : TxtK mg := ⟨B.len, B.int, B.abs, PySem.W.mg_none_of X G y_divmod⟩
  have TLw : TxtL mg := ⟨B_all, B.range⟩
  refine ⟨PySem.W.fnOf "law" "law" (defArgs sLaw) (defBody sLaw) (defScope sLaw) .none kV21 dc21 pm21 an21 cd21 ct21, fun s u => .of_eq rfl, fun base => ?_⟩
  have right : ∀ p, FnG P w K mg base CX0 9 f20 _ ["kiln"] (spD K (Zk p) (S__law_right p)) := fun p => by
    have His_lot := h_is_lot (P := P) (w := w) (base := base) (Z := Zk p) F0 M0 B
    have Hlots_of := h_lots_of (P := P) (w := w) (base := base) (Z := Zk p) F1 M1 B B_sorted
    have Hare_cases := h_are_cases (P := P) (w := w) (base := base) (Z := Zk p) F2 M2 B His_lot C_LETTERS C_LEAST_CASES C_MOST_CASES
    have Hcheck_cases := h_check_cases (P := P) (w := w) (base := base) (Z := Zk p) F3 M3 B Hare_cases
    have H_is_group := h__is_group (P := P) (w := w) (base := base) (Z := Zk p) F4 M4 B His_lot B_all
    have H_is_order := h__is_order (P := P) (w := w) (base := base) (Z := Zk p) F5 M5 B H_is_group Hlots_of B_all B_sorted
    have H_check_order := h__check_order (P := P) (w := w) (base := base) (Z := Zk p) F6 M6 B H_is_order
    have H_sayings_of := h__sayings_of (P := P) (w := w) (base := base) (Z := Zk p) F7 M7 B
    have G_sayings_of := f_sayings_of (P := P) (w := w) (base := base) (Z := Zk p) F8 M8 B Hcheck_cases H_check_order H_sayings_of
    have H_law_scoop := h__law_scoop (P := P) (w := w) (base := base) (p := p) F10 M10 TB
    have H_law_letters := h__law_letters (P := P) (w := w) (base := base) (p := p) F11 M11 B H_law_scoop B_sorted
    have H_law_lots := h__law_lots (P := P) (w := w) (base := base) (Z := Zk p) F12 M12 B B_sorted
    have H_law_lean := h__law_lean (P := P) (w := w) (base := base) (Z := Zk p) F13 M13 B
    have H_law_worth := h__law_worth (P := P) (w := w) (base := base) (Z := Zk p) F14 M14 B
    have H_law_holds := h__law_holds (P := P) (w := w) (base := base) (Z := Zk p) F15 M15 B H_law_lean H_law_worth
    have H_law_weights := h__law_weights (P := P) (w := w) (base := base) (p := p) F16 M16 B H_law_scoop
    have H_law_total := h__law_total (P := P) (w := w) (base := base) (Z := Zk p) F17 M17 B
    have H_law_order := h__law_order (P := P) (w := w) (base := base) (Z := Zk p) F18 M18 B H_law_lots H_law_total B_sorted B_set
    have H_law_are_sayings := h__law_are_sayings (P := P) (w := w) (base := base) (Z := Zk p) F19 M19 B H_law_lots
    have FA : FK P w K mg base (Zk p) "sayings_of" 5 ["cases", "order"] ["order", "cases"] S_sayings_of := ⟨f8, _, M8, k8, F8.binds (fun _ _ _ _ _ _ us hl => match us, hl with | [_, _], _ => rfl), G_sayings_of, kbn_of F8 (fun _ _ _ _ _ _ us ws h1 h2 => match us, h1, ws, h2 with | [], _, [_, _], _ => rfl) (fun _ s => Vals.rv s)⟩
    exact h__law_right (P := P) (w := w) (base := base) (p := p) F20 M20 B H_law_scoop H_law_letters H_law_weights H_law_holds H_law_order H_law_are_sayings FA
  have br : Binds K _ ["kiln"] [] := F20.binds fun _ _ _ _ _ _ us hl => match us, hl with | [_], _ => rfl
  have bb : Binds K _ ["cells", "turn"] [] := F9.binds fun _ _ _ _ _ _ us hl => match us, hl with | [_, _], _ => rfl
  exact ok_law F21 TLw ⟨M20, k20, br⟩ (right_of right) ⟨M9, k9, bb⟩ (ok_kiln (P := P) (w := w) (base := base) F9 TB)
end Lw

set_option maxRecDepth 100000
open PySem PySem.W PyProof.Rows
set_option maxRecDepth 100000 in
set_option maxHeartbeats 0 in
theorem PySem.Challenge.cw_likelybook_k53_whole_sayings_of_orders_holds : PySem.Challenge.rw_likelybook_k53_whole_sayings_of_orders.Holds := by
  w_on; o_law; k_head; (case hw => w_witness2)
  k_fill
  refine Lw.walkL (l := PySem.Challenge.rw_likelybook_k53_whole_sayings_of_orders) rfl rfl (fun w h Y => PySem.W.kIn_of Y) ?F
  case F =>
    intro w mg fa h KX G hmg
    refine' Lw.fin KX G hmg ?a0 ?l0 ?cc0 ?k0 ?a1 ?l1 ?cc1 ?k1 ?a2 ?l2 ?cc2 ?k2 ?a3 ?l3 ?cc3 ?k3 ?a4 ?l4 ?cc4 ?k4 ?a5 ?l5 ?cc5 ?k5 ?a6 ?l6 ?cc6 ?k6 ?a7 ?l7 ?cc7 ?k7 ?a8 ?l8 ?cc8 ?k8 ?a9 ?l9 ?cc9 ?k9 ?a10 ?l10 ?cc10 ?k10 ?a11 ?l11 ?cc11 ?k11 ?a12 ?l12 ?cc12 ?k12 ?a13 ?l13 ?cc13 ?k13 ?a14 ?l14 ?cc14 ?k14 ?a15 ?l15 ?cc15 ?k15 ?a16 ?l16 ?cc16 ?k16 ?a17 ?l17 ?cc17 ?k17 ?a18 ?l18 ?cc18 ?k18 ?a19 ?l19 ?cc19 ?k19 ?a20 ?l20 ?cc20 ?k20 ?a21 ?l21 ?cc21 ?k21 ?z0 ?z1 ?z2 ?z3 ?z4 ?z5 ?z6 ?z7 ?z8 ?z9 ?z10 ?z11 ?z12 ?z13 ?z14 ?ci0 ?ci1 ?cs0 ?y_sorted ?y_divmod ?y_all ?y_set
    (case a0 => k_is)
    (case l0 => k_is)
    (case cc0 => k_is)
    (case k0 => k_is)
    (case a1 => k_is)
    (case l1 => k_is)
    (case cc1 => k_is)
    (case k1 => k_is)
    (case a2 => k_is)
    (case l2 => k_is)
    (case cc2 => k_is)
    (case k2 => k_is)
    (case a3 => k_is)
    (case l3 => k_is)
    (case cc3 => k_is)
    (case k3 => k_is)
    (case a4 => k_is)
    (case l4 => k_is)
    (case cc4 => k_is)
    (case k4 => k_is)
    (case a5 => k_is)
    (case l5 => k_is)
    (case cc5 => k_is)
    (case k5 => k_is)
    (case a6 => k_is)
    (case l6 => k_is)
    (case cc6 => k_is)
    (case k6 => k_is)
    (case a7 => k_is)
    (case l7 => k_is)
    (case cc7 => k_is)
    (case k7 => k_is)
    (case a8 => k_is)
    (case l8 => k_is)
    (case cc8 => k_is)
    (case k8 => k_is)
    (case a9 => k_is)
    (case l9 => k_is)
    (case cc9 => k_is)
    (case k9 => k_is)
    (case a10 => k_is)
    (case l10 => k_is)
    (case cc10 => k_is)
    (case k10 => k_is)
    (case a11 => k_is)
    (case l11 => k_is)
    (case cc11 => k_is)
    (case k11 => k_is)
    (case a12 => k_is)
    (case l12 => k_is)
    (case cc12 => k_is)
    (case k12 => k_is)
    (case a13 => k_is)
    (case l13 => k_is)
    (case cc13 => k_is)
    (case k13 => k_is)
    (case a14 => k_is)
    (case l14 => k_is)
    (case cc14 => k_is)
    (case k14 => k_is)
    (case a15 => k_is)
    (case l15 => k_is)
    (case cc15 => k_is)
    (case k15 => k_is)
    (case a16 => k_is)
    (case l16 => k_is)
    (case cc16 => k_is)
    (case k16 => k_is)
    (case a17 => k_is)
    (case l17 => k_is)
    (case cc17 => k_is)
    (case k17 => k_is)
    (case a18 => k_is)
    (case l18 => k_is)
    (case cc18 => k_is)
    (case k18 => k_is)
    (case a19 => k_is)
    (case l19 => k_is)
    (case cc19 => k_is)
    (case k19 => k_is)
    (case a20 => k_is)
    (case l20 => k_is)
    (case cc20 => k_is)
    (case k20 => k_is)
    (case a21 => k_is)
    (case l21 => k_is)
    (case cc21 => k_is)
    (case k21 => k_is)
    (case z0 => k_is)
    (case z1 => k_is)
    (case z2 => k_is)
    (case z3 => k_is)
    (case z4 => k_is)
    (case z5 => k_is)
    (case z6 => k_is)
    (case z7 => k_is)
    (case z8 => k_is)
    (case z9 => k_is)
    (case z10 => k_is)
    (case z11 => k_is)
    (case z12 => k_is)
    (case z13 => k_is)
    (case z14 => k_is)
    (case ci0 => k_is)
    (case ci1 => k_is)
    (case cs0 => k_is)
    (case y_sorted => k_is)
    (case y_divmod => k_is)
    (case y_all => k_is)
    (case y_set => k_is)
