import PyProof.Rows.All
import Wide.All
import OpenK.AllK
import Wide.FinOn
import KE.KSuper
import KE.KExcSuper
import HandS.Exc
import HandS.ExcInit
import HandS.Nested
import HandS.ForMost
import HandS.ForExc
import HandS.IsInst
import HandS.FStr
import HandS.CallSlots
import HandS.Style
import HandS.Flow
import HandS.Defaults
import HandS.Lambda
import KE.DataEq
import HandS.TupAny
import HandS.TupLen
import HandS.Codes
import HandS.Head0
import HandS.Head1
import HandS.Head2
import HandS.HeadEnd
import HandS.HeadHook1
import HandS.HeadHook2
import HandS.EndTab
import HandS.FStrTup
import PyProof.ReprHeads
import PyProof.ReprHeadsEmpty
import KE.KTryMore
import HandS.ExcField
import HandS.HotCalls
import HandS.ClsMeth
import HandS.HeadHook4
import PySem.Challenge.RW_standworth_k07_askings_refused
set_option Elab.async false
set_option linter.all false
set_option maxRecDepth 100000
set_option maxHeartbeats 8000000
set_option autoImplicit false
/-! DX1: exceptions of the program over ValueError, LookupError, IndexError, at any distance; their own dict; super().__init__(..). -/
namespace DX
open PySem PySem.Spec PyProof.Rows L2

/-- own classes, then the tail of a built-in one -/
def refsT (tl : List Value) : List Value → Bool
  | .ref _ :: r => refsT tl r
  | l => l == tl
theorem refsT_of {tl : List Value} : ∀ {l : List Value}, refsT tl l = true → ∃ cs : List Addr, l = cs.map Value.ref ++ tl := by
  intro l
  induction l with
  | nil => intro h; exact ⟨[], (beq_iff_eq.mp h)⟩
  | cons a r ih =>
    intro h
    cases a
    case ref c =>
      obtain ⟨cs, e⟩ := ih h
      exact ⟨c :: cs, by rw [e]; rfl⟩
    all_goals exact ⟨[], beq_iff_eq.mp h⟩
/-- what is known of a built-in exception class -/
structure ExT (tl : List Value) (B newId initId : String) : Prop where
  base : ExcBaseFacts B newId initId tl
  kx : PySem.W.KxsFacts B initId
  pass : ∀ self : Value, refuseLoop self "__setattr__" tl = pure ()
  obj : tl.contains (.type "object") = true
abbrev tlV : List Value := [.type "ValueError", .type "Exception", .type "BaseException", .type "object"]
abbrev tlL : List Value := [.type "LookupError", .type "Exception", .type "BaseException", .type "object"]
abbrev tlI : List Value := [.type "IndexError", .type "LookupError", .type "Exception", .type "BaseException", .type "object"]
theorem exT_V : ExT tlV "ValueError" "ValueError.__new__" "ValueError.__init__" := ⟨F.excBase_ValueError, PySem.W.kxs_ValueError, F.store_ValueError.passes, by decide +kernel⟩
theorem exT_L : ExT tlL "LookupError" "LookupError.__new__" "LookupError.__init__" := ⟨F.excBase_LookupError, PySem.W.kxs_LookupError, F.store_LookupError.passes, by decide +kernel⟩
theorem exT_I : ExT tlI "IndexError" "IndexError.__new__" "IndexError.__init__" := ⟨F.excBase_IndexError, PySem.W.kxs_IndexError, F.store_IndexError.passes, by decide +kernel⟩
section
variable {tl l : List Value} {B newId initId : String}
theorem ExT.passes (x : ExT tl B newId initId) (h : refsT tl l = true) (self : Value) : refuseLoop self "__setattr__" l = pure () := by
  obtain ⟨cs, rfl⟩ := refsT_of h
  clear h
  induction cs with
  | nil => exact x.pass self
  | cons c cs ih => rw [List.map_cons, List.cons_append, refuseLoop_ref]; exact ih
theorem refsT_has (h : refsT tl l = true) (Y : String) : l.contains (.type Y) = tl.contains (.type Y) := by
  obtain ⟨cs, rfl⟩ := refsT_of h
  clear h
  induction cs with
  | nil => rfl
  | cons c cs ih => rw [List.map_cons, List.cons_append, List.contains_cons, ih]; rfl
end
/-! ### the model's own word on self.f = v -/
section
open Builtin Builtin.ObjectAttr
variable {prog : Program} {w : World} {A : Around} {R : Result → Shared → Prop} {hp : Heap} {g : Array GenState} {d : Drawn} {t : Nat} {os : OsState}
variable {K : PySem.W.Frag} {name : Str} {tk : Tok} {v : Value} {x C : Addr} {cd : ClassData}
theorem set_walk {ox : Obj} {od : Option Obj} (KI : K.In hp) (I : PySem.W.InstAt hp x ox C od) (hcd : PySem.W.clsIn K C = some cd) (ps : ∀ self : Value, refuseLoop self "__setattr__" cd.mro = pure ())
    (ob : cd.mro.contains (.type "object") = true) (none_ : PySem.W.findIn K (.ref C) name = some none)
    (hq : wpAny (model prog w) A.in1 (storeInOwnDict (.ref x) (.ref C) (.str name tk) name v false)
      (fun fin s' => match fin with | .done f => R (.ok f) s' | .again c' => c'.quiet = true ∧ codeAny (model prog w) A c' R s') (fun e s' => R (.error e) s') ⟨hp, g, d, t, os⟩) :
    codeAny (model prog w) A (.call (.builtin "object.__setattr__") ⟨[.ref x, .str name tk, v], []⟩) R ⟨hp, g, d, t, os⟩ := by
  have so := F.store_object
  have nemp : ¬ (cd.mro.isEmpty = true) := by
    cases e : cd.mro with
    | nil => rw [e] at ob; exact fun _ => by cases ob
    | cons a b => exact fun z => by cases z
  have isO : PySem.W.Looks (model prog w) hp (isInstance (.ref x) (.type "object")) true :=
    I.type.andThen (PySem.W.looks_mroIn KI (by unfold PySem.W.mroIn; rw [hcd, Option.bind_some, if_neg nemp, ob]))
  refine codeAny_call_builtin so.slot.plain so.entry ?_
  refine @PySem.W.check_slot (model prog w) _ _ ⟨hp, g, d, t, os⟩ "object.__setattr__" "object" "__setattr__" (.ref x) [.str name tk, v] [] _
    so.kind so.split isO (so.args (.ref x) (.str name tk) v) ?_
  have lm : PySem.W.Looks (model prog w) hp (mroOf (.ref C)) cd.mro := (PySem.W.looks_clsIn KI hcd).andThen .now
  have lt : PySem.W.Looks (model prog w) hp (storeTaker? none) none := .now
  rw [PySem.W.osa_eq, refuse_eq]
  refine wpAny_bind (wpAny_bind (I.type.at (wpAny_bind (lm.at ?_))))
  rw [ps]
  refine wpAny_pure ?_
  refine wpAny_bind (I.type.at (wpAny_bind ((PySem.W.looks_findIn KI none_).at (wpAny_bind (lt.at ?_)))))
  exact hq
theorem set_first {fv : Array Value} (KI : K.In hp) (hx : hp.get? x = some { cls := .ref C, data := .fields fv }) (hcd : PySem.W.clsIn K C = some cd) (ps : ∀ self : Value, refuseLoop self "__setattr__" cd.mro = pure ())
    (ob : cd.mro.contains (.type "object") = true) (hh : cd.hasDict = true) (none_ : PySem.W.findIn K (.ref C) name = some none)
    (hq : ∀ (h' : Heap) (tk' : Nat) (dx : Addr), (∀ b o, b ≠ x → hp.get? b = some o → h'.get? b = some o) → hp.objs.size ≤ dx → dx ≠ x →
      h'.get? x = some { cls := .ref C, dict := some dx, data := .fields fv } → h'.Ns1 dx (fun y => if y = name then some v else none) → R (.ok (.ret .none)) ⟨h', g, d, tk', os⟩) :
    codeAny (model prog w) A (.call (.builtin "object.__setattr__") ⟨[.ref x, .str name tk, v], []⟩) R ⟨hp, g, d, t, os⟩ := by
  have I : PySem.W.InstAt hp x { cls := .ref C, data := .fields fv } C none := ⟨hx, rfl, rfl, trivial⟩
  have xlt : x ≠ hp.objs.size := Nat.ne_of_lt (Heap.lt_size hx)
  have lc : PySem.W.Looks (model prog w) hp (classData C) cd := PySem.W.looks_clsIn KI hcd
  refine set_walk KI I hcd ps ob none_ ?_
  obtain ⟨n1, n2, n3, n4, n5, n6, n7, n8, n9, n10, n11⟩ := cd
  dsimp only at hh
  subst hh
  unfold storeInOwnDict ownDictForStores
  repeat (first | with_reducible refine PySem.HandSPX.store_in_new ?_ ?_ | with_reducible refine wpAny_loadPart_at hx ?_ | with_reducible refine lc.at ?_ | wp_step)
  · exact ⟨_, #[], _, (Heap.get?_update_ne _ _ _ _ xlt.symm).trans (Heap.get?_push_at rfl rfl), rfl, fun e he => absurd he (by simp), fun _ => rfl⟩
  · intro h' tk' hn' sb
    have px : (hp.push { cls := .type "dict", data := .dict #[] }).get? x = some { cls := .ref C, data := .fields fv } := Heap.get?_push_of_some _ hx
    refine hq h' tk' hp.objs.size (fun b o hb ho => ?_) (Nat.le_refl _) xlt.symm ?_ hn'
    · refine (sb.2 b (Nat.ne_of_lt (Heap.lt_size ho))).trans ?_
      exact (Heap.get?_update_ne _ _ _ _ hb).trans (Heap.get?_push_of_some _ ho)
    · exact (sb.2 x xlt).trans (Heap.get?_update_self _ px rfl)
theorem set_more {fv : Array Value} {dx : Addr} {m0 : Str → Option Value} {nl : List Str} (KI : K.In hp) (hx : hp.get? x = some { cls := .ref C, dict := some dx, data := .fields fv }) (hns : hp.Ns1 dx m0) (hw : Within m0 nl) (hz : nl.length ≤ 1000)
    (hcd : PySem.W.clsIn K C = some cd) (ps : ∀ self : Value, refuseLoop self "__setattr__" cd.mro = pure ()) (ob : cd.mro.contains (.type "object") = true) (hh : cd.hasDict = true) (none_ : PySem.W.findIn K (.ref C) name = some none)
    (hq : ∀ (h' : Heap) (tk' : Nat), (∀ b o, b ≠ dx → hp.get? b = some o → h'.get? b = some o) → h'.Ns1 dx (fun y => if y = name then some v else m0 y) → R (.ok (.ret .none)) ⟨h', g, d, tk', os⟩) :
    codeAny (model prog w) A (.call (.builtin "object.__setattr__") ⟨[.ref x, .str name tk, v], []⟩) R ⟨hp, g, d, t, os⟩ := by
  obtain ⟨oD, e1, e2, hoD, e3, e4⟩ := hns.count hw
  have I : PySem.W.InstAt hp x { cls := .ref C, dict := some dx, data := .fields fv } C (some oD) := ⟨hx, rfl, rfl, hoD⟩
  have lc : PySem.W.Looks (model prog w) hp (classData C) cd := PySem.W.looks_clsIn KI hcd
  refine set_walk KI I hcd ps ob none_ ?_
  obtain ⟨n1, n2, n3, n4, n5, n6, n7, n8, n9, n10, n11⟩ := cd
  dsimp only at hh
  subst hh
  unfold storeInOwnDict ownDictForStores
  repeat (first | with_reducible refine PySem.OEX.store_in_old hns hw hz ?_ | with_reducible refine wpAny_loadPart_at hx ?_ | with_reducible refine lc.at ?_ | wp_step)
  intro h' tk' hn' sb
  exact hq h' tk' (fun b o hb ho => (sb.2 b hb).trans ho) hn'
end
end DX

namespace DX
open PySem PySem.Spec PyProof.Rows L2

/-- what the written part says of an exception's class: its mro ends in tl -/
structure OexT (K : PySem.W.Frag) (tl : List Value) (newId : String) (C : Addr) : Prop where
  cls : ∃ nm q N bs bm sn sub ab col dd k0 k1 k2 k3 k5, K.lookup C = some (excClassObj nm q C N bs bm true sn sub ab col dd k0 k1 k2 k3 k5 newId) ∧ refsT tl bm = true
  sa : PySem.W.findIn K (.ref C) "__setattr__" = some (some (.builtin "object.__setattr__"))
  exC : PySem.W.subIn K (.ref C) (.type "BaseException") = some true
  tyC : PySem.W.typeIn K (.ref C) = some (.type "type")
  kC : PySem.W.keepIn K (.ref C) = true
section
variable {X : Cx} {pins : List (Addr × Obj)} {σ : L2.St} {H : Hp} {s : Shared} {a C dx : Addr} {f : Str} {y : V} {u : Value} {fs : List (Str × V)} {Q : Unit → Shared → Prop} {E : Value → Shared → Prop} {A : Around}
variable {tl : List Value} {B newId initId : String}
theorem OexT.cd {K : PySem.W.Frag} (T : OexT K tl newId C) (x : ExT tl B newId initId) : ∃ cd : ClassData, PySem.W.clsIn K C = some cd ∧ (∀ self : Value, refuseLoop self "__setattr__" cd.mro = pure ()) ∧ cd.mro.contains (.type "object") = true ∧ cd.hasDict = true := by
  obtain ⟨nm, q, N, bs, bm, sn, sub, ab, col, dd, k0, k1, k2, k3, k5, hC, hbm⟩ := T.cls
  refine ⟨{ name := nm, bases := bs, mro := .ref C :: bm, ns := N, qualname := q, hasDict := true, slotNames := sn, subclasses := sub, abstract := ab, collection := col, hasDel := false }, ?_, ?_, ?_, rfl⟩
  · unfold PySem.W.clsIn
    rw [hC]
  · intro self
    show refuseLoop self "__setattr__" (.ref C :: bm) = pure ()
    rw [refuseLoop_ref]
    exact x.passes hbm self
  · show (Value.ref C :: bm).contains (.type "object") = true
    rw [List.contains_cons, refsT_has hbm, x.obj, Bool.or_true]
/-- self.f = y, the first one -/
theorem put_first (T : OexT X.K tl newId C) (x : ExT tl B newId initId) (I : Inv X pins σ H s) (e : H a = some (exo a C none)) (hno : PySem.W.findIn X.K (.ref C) f = some none) (ry : RelV y u)
    (h : ∀ (dx : Addr) (s' : Shared), H dx = none → dx ≠ a → Inv X pins σ (upd (upd H dx (exd dx [(f, y)])) a (exo a C (some dx))) s' → Q () s') : wpAny (model X.prog X.w) A (setAttr (.ref a) f u) Q E s := by
  obtain ⟨cd, hcd, ps, ob, hh⟩ := T.cd x
  obtain ⟨t1, ho⟩ := exo_at I.hok e
  obtain ⟨hp, g, d, t, os⟩ := s
  refine PySem.W.set_plain I.kIn (ox := { cls := .ref C, dict := none, data := .fields #[.ref t1, .none, .none, .none, .bool false, .none] }) (od := none) ⟨ho, rfl, rfl, trivial⟩ T.sa ?_
  refine set_first I.kIn ho hcd ps ob hh hno fun h' tk' dx k dn dne hx hn => ?_
  have fr : H dx = none := I.hok.fresh dn
  have lo : ∀ {b : Addr} {o : Obj}, hp.get? b = some o → b ≠ dx := fun {b o} q => Nat.ne_of_lt (Nat.lt_of_lt_of_le (Heap.lt_size q) dn)
  have na : ∀ {b : Addr}, H b = none → b ≠ a := fun {b} n z => by rw [z, e] at n; cases n
  have un : Un X.fs [] H (upd (upd H dx (exd dx [(f, y)])) a (exo a C (some dx))) hp h' := by
    constructor
    · exact fun b o q n _ _ => k b o (na n) q
    · exact fun b o q n _ _ => ⟨o.slots, k b o (na n) q⟩
    · exact fun b o q n _ => by rw [upd_ne (na n), upd_ne (lo q)]; exact n
    · intro b o q _
      by_cases hb : b = a
      · exact ⟨_, hb ▸ hx⟩
      · exact ⟨o, k b o hb q⟩
    · exact fun b xs q => by rw [upd_ne (at_ne e q exo_tup), upd_ne (ne_of_none q fr)]; exact q
    · exact fun b o v q => by rw [upd_ne (at_ne e q exo_frz), upd_ne (ne_of_none q fr)]; exact q
    · exact fun b ps q => ⟨#[], by rw [upd_ne (at_ne e q exo_tbl), upd_ne (ne_of_none q fr), q]; simp⟩
  refine h dx _ fr dne (I.un (t' := tk') un fun b o q => ?_)
  by_cases hb : b = a
  · subst hb
    rw [upd_same] at q
    cases q
    exact exo_ok hx
  · rw [upd_ne hb] at q
    by_cases hd : b = dx
    · subst hd
      rw [upd_same] at q
      cases q
      exact exd_ok hn (relO_put (fs := []) ry fun g => True.intro)
    · rw [upd_ne hd] at q
      refine (I.hok b o q).stay (fun c v hc z => k c v ?_ z) (fun c hc => ?_) fun c xs hc => ?_
      · rcases hc with hc | hc
        · exact hc ▸ hb
        · exact at_ne e hc exo_own
      · rw [upd_ne (at_ne e hc exo_own), upd_ne (ne_of_none hc fr)]; exact hc
      · rw [upd_ne (at_ne e hc exo_tup), upd_ne (ne_of_none hc fr)]; exact hc
/-- self.f = y, a further one -/
theorem put_more (T : OexT X.K tl newId C) (x : ExT tl B newId initId) (I : Inv X pins σ H s) (e : H a = some (exo a C (some dx))) (ed : H dx = some (exd dx fs)) (hl : fs.length ≤ 900) (hno : PySem.W.findIn X.K (.ref C) f = some none) (ry : RelV y u)
    (h : ∀ s' : Shared, Inv X pins σ (upd H dx (exd dx ((f, y) :: fs))) s' → Q () s') : wpAny (model X.prog X.w) A (setAttr (.ref a) f u) Q E s := by
  obtain ⟨cd, hcd, ps, ob, hh⟩ := T.cd x
  obtain ⟨t1, ho⟩ := exo_at I.hok e
  obtain ⟨mA, hns, rel⟩ := exd_at I.hok ed
  have hw := within_of rel
  obtain ⟨hp, g, d, t, os⟩ := s
  obtain ⟨oD, _, _, hoD, _, _⟩ := hns.count hw
  refine PySem.W.set_plain I.kIn (ox := { cls := .ref C, dict := some dx, data := .fields #[.ref t1, .none, .none, .none, .bool false, .none] }) (od := some oD) ⟨ho, rfl, rfl, hoD⟩ T.sa ?_
  refine set_more I.kIn ho hns hw (by rw [List.length_map]; omega) hcd ps ob hh hno fun h' tk' k hn => ?_
  have there : ∃ o, h'.get? dx = some o := by
    obtain ⟨o, _, _, e', _⟩ := hn
    exact ⟨o, e'⟩
  exact h _ (I.write (t' := tk') (x := dx) (e := dx) (o := exd dx ((f, y) :: fs)) (by rw [ed]; exact True.intro) (.inl rfl) k there (exd_ok hn (relO_put ry rel)))
end
/-- self.f = e -/
def tPut (K : PySem.W.Frag) (f : Str) (to te : TE) : TS := fun D σ H => te σ H fun y H1 => to σ H1 fun x H2 => ∃ (a C : Addr) (tl : List Value) (B newId initId : String), x = .ref a ∧ ExT tl B newId initId ∧ OexT K tl newId C ∧ PySem.W.findIn K (.ref C) f = some none ∧
  ((H2 a = some (exo a C none) ∧ ∀ dx, H2 dx = none → dx ≠ a → D.nx σ (upd (upd H2 dx (exd dx [(f, y)])) a (exo a C (some dx)))) ∨
    ∃ (dx : Addr) (fs : List (Str × V)), H2 a = some (exo a C (some dx)) ∧ H2 dx = some (exd dx fs) ∧ fs.length ≤ 900 ∧ D.nx σ (upd H2 dx (exd dx ((f, y) :: fs))))
theorem ps_put {X : Cx} {o e : Expr} {to te : TE} {f : Str} {p p' pos : Pos} (ho : PE X o to) (he : PE X e te) (hs : swapsWith e (some (.Attribute o f p')) pos.line X.env = pure false := by rfl) : PS X (.Assign [.Attribute o f p'] e pos) (tPut X.K f to te) := by
  constructor
  intro pins s σ H D I h
  refine plainObj_wpAny_Assign_Attribute (thn (he.run pins s σ H _ I h) fun v s1 ⟨y, H1, I1, r1, q1⟩ => ?_) hs
  refine thn (ho.run pins s1 σ H1 _ I1 q1) fun u s2 ⟨x, H2, I2, r2, a, C, tl, B, newId, initId, ex, xt, T, hno, q⟩ => ?_
  subst ex
  obtain rfl : u = Value.ref a := r2
  rcases q with ⟨ea, q⟩ | ⟨dx, fs, ea, ed, hl, q⟩
  · exact put_first T xt I2 ea hno r1 fun dx s' n ne J => ⟨σ, _, J, q dx n ne⟩
  · exact put_more T xt I2 ea ed hl hno r1 fun s' J => ⟨σ, _, J, q⟩
end DX

/-! DX3: an exception's own __init__ that begins with super().__init__(e). -/
namespace DX
open PySem PySem.Spec PyProof.Rows L2 NdefX
open PySem.W (ksFn ks_superObj kxs_mw clsIn nsIn mroIn subIn alongIn)

section
variable {prog : Program} {w : World} {A : Around} {E : Value → Shared → Prop} {h : Heap} {g : Array GenState} {d : Drawn} {t : Nat} {os : OsState} {tl : List Value} {B newId initId : String}
/-- the built-in __init__, bound to the object at e, called -/
theorem call_mw {u e t0 C : Addr} {rest : List Value} {Q : Value → Shared → Prop} {K : PySem.W.Frag} (xt : ExT tl B newId initId) (T : OexT K tl newId C) (KI : K.In h) (he : h.get? e = some (PySem.HandSPX.excO C t0)) (hu : h.get? u = some (kxs_mw initId e)) (hr : rest.length ≤ sizeLine)
    (hq : ∀ (h' : Heap) (t1 : Addr), (∀ b o, b ≠ e → h.get? b = some o → h'.get? b = some o) → h'.get? e = some (PySem.HandSPX.excO C t1) → Q .none ⟨h', g, d, t, os⟩) :
    wpAny (model prog w) A (call (.ref u) rest) Q E ⟨h, g, d, t, os⟩ := by
  obtain ⟨nm, q, N, bs, bm, sn, sub, ab, col, dd, k0, k1, k2, k3, k5, hC, hbm⟩ := T.cls
  have mw : (Value.type "method-wrapper" == Value.type "method" || Value.type "method-wrapper" == Value.type "builtin_function_or_method" || Value.type "method-wrapper" == Value.type "method-wrapper") = true := by decide
  refine wpAny_call (codeAny_of_tree ?_)
  show wpAny _ A.in1 (callAny (.ref u) ⟨rest, []⟩) _ _ _
  simp only [callAny]
  refine wpAny_bind (wpAny_load hu ?_)
  simp only [kxs_mw, mw, if_true]
  refine PySem.W.KFB.if_so (by decide) ?_
  refine wpAny_bind ?_
  refine PySem.W.check_bound_init xt.base.toExcCallFacts (KI _ _ hC) he rfl ?_
  refine wpAny_bind (wpAny_pure (wpAny_pure ?_))
  refine ⟨PySem.plainId_quiet xt.base.init.plain _, codeAny_builtin xt.base.initEntry ?_⟩
  refine PySem.W.exc_init_tree (cls := .ref C) (t0 := t0) (dv := none) (c2 := .none) (c3 := .none) (b4 := .bool false) he hr fun h' k e' t' => ?_
  exact hq h' _ k e'
end

/-- what the written part says of an exception's own __init__ -/
structure InitF (P : Program) (K : PySem.W.Frag) (C : Addr) (B initId : String) (name qual : Str) (params : Arguments) (body : List Stmt) (scope : Scope) (f cc cda : Addr) (fd : FuncData) : Prop where
  ex : ∃ (oc : Value) (od : Option Addr) (dV kV doc pm : Value) (an : Option Addr) (ct : Value) (osl : Array (Option Value)), fd = ksFn name qual params body scope dV kV doc pm an (.ref cda) ct cc ∧ K.lookup f = some ⟨oc, od, .func fd, osl⟩
  code : PySem.W.codeIn K (.ref cda) qual = true
  file : ∃ (ccl : Value) (cdd : Option Addr) (vs : Array Value) (ccs : Array (Option Value)) (file : Str) (tf : Tok), K.lookup cda = some ⟨ccl, cdd, .fields vs, ccs⟩ ∧ vs[2]? = some (.str file tf) ∧ ((P.main.file : Str) == file) = true
  cell : ∃ (cl : Value) (cld : Option Addr) (csl : Array (Option Value)), K.lookup cc = some ⟨cl, cld, .cell (some (.ref C)), csl⟩
  mroC : mroIn K C (.ref C) = some true
  sup : PySem.W.ks_superIn K C C "__init__" = some (some (.builtin initId))
  sub : subIn K (.ref C) (.type B) = some true
  third : nsIn K cStatics "thirdparty.any" = some none
abbrev nfOf (name qual : Str) (params : Arguments) (body : List Stmt) (scope : Scope) (cc cda : Addr) : NF := ⟨name, qual, params, body, scope, [("__class__", cc)], cda⟩

/-- a new thing that nothing may change is held -/
theorem inv_pin {X : Cx} {pins : List (Addr × Obj)} {σ : L2.St} {H : Hp} {s : Shared} {p : Addr × Obj} (I : Inv X pins σ H s) (g : s.heap.get? p.1 = some p.2) (n : H p.1 = none) (l : p.1 ≠ X.env.locals) (f : p.1 ∉ X.fs) (c : ∀ v, p.2.data ≠ .cell v) : Inv X (p :: pins) σ H s := by
  refine ⟨I.ok, I.os, I.bare, I.base, I.loc, I.cell, I.free, I.freeC, fun q hq => ?_, I.hok, I.len⟩
  rcases List.mem_append.mp hq with hq | hq
  · exact I.pin q (List.mem_append_left _ hq)
  · rcases List.mem_cons.mp hq with hq | hq
    · rw [hq]; exact ⟨g, n, l, f, c⟩
    · exact I.pin q (List.mem_append_right _ hq)
theorem init_fn {CX : CXT} {P : Program} {w : World} {K : PySem.W.Frag} {mg : Str → Option Value} {base : Heap} {k : Nat} {C f cc cda : Addr} {B newId initId : String} {tl : List Value} {name qual self : Str} {params : Arguments} {rest : List Stmt} {scope : Scope} {fd : FuncData} {N ps : List Str} {sp : Sp}
    {te : Expr} {p0 p1 p2 p3 p4 : Pos} {pl : Sem Bool}
    (Fi : InitF P K C B initId name qual params (.Expr (.Call (.Attribute (.Call (.Name "super" p0) [] [] p1) "__init__" p2) [te] [] p3) p4 :: rest) scope f cc cda fd) (S : NScope N ps ["__class__"] scope) (xt : ExT tl B newId initId) (T : OexT K tl newId C)
    (hsup : scope.names.lookup ("super" : Str) = some .globalImplicit) (hm : mg "super" = none) (hself : ∃ ar : Arg, (params.posonlyargs ++ params.args).head? = some ar ∧ ps[0]? = some ar.arg)
    (htop : (P.main.scope.names.lookup ("super" : Str)).isSome = false)
    (len : ∀ vs H Q E, sp vs H Q E → vs.length = ps.length)
    (hbody : ∀ (A : Around) (outer : List Env) (s : Shared) (H : Hp) (vs : List V) (Q : VK) (E : XK), Room k (A.deeper (envF (nfOf name qual params (.Expr (.Call (.Attribute (.Call (.Name "super" p0) [] [] p1) "__init__" p2) [te] [] p3) p4 :: rest) scope cc cda) f s.heap.objs.size)) → sp vs H Q E →
      ∃ (a : Addr) (ta : TA) (t : TS), vs[0]? = some (.ref a) ∧ H a = some (exo a C none) ∧
        PA (ncx CX P w K mg base N (nfOf name qual params (.Expr (.Call (.Attribute (.Call (.Name "super" p0) [] [] p1) "__init__" p2) [te] [] p3) p4 :: rest) scope cc cda) f A outer s H E) [te] ta ∧
        PSs (ncx CX P w K mg base N (nfOf name qual params (.Expr (.Call (.Attribute (.Call (.Name "super" p0) [] [] p1) "__init__" p2) [te] [] p3) p4 :: rest) scope cc cda) f A outer s H E) rest t ∧
        ta (startF N vs [none]) H fun us H1 => us.length ≤ 1000 ∧ H1 a = some (exo a C none) ∧ t { nx := fun _ H' => Q .non H', rt := Q } (startF N vs [none]) H1)
    (he : ∀ env : Env, eval (.Call (.Attribute (.Call (.Name "super" p0) [] [] p1) "__init__" p2) [te] [] p3) env = (do
      let ov ← attributeBase (.Call (.Name "super" p0) [] [] p1) "__init__" env (eval (.Call (.Name "super" p0) [] [] p1) env)
      standAt p2.atName
      let (f, first) ← holding [ov] (getMethod ov "__init__" pl)
      callWith p3 f first (backTo p3 (starEach [te] env)) []) := by intro env; rfl)
    (hst : ∀ env : Env, starEach [te] env = [(false, eval te env)] := by intro env; rfl) :
    FnOk P w K mg base CX (k + 1) f fd ps sp := by
  obtain ⟨oc, od, dV, kV, doc, pm, an, ct, osl, rfl, lk⟩ := Fi.ex
  obtain ⟨ccl, cdd, cvs, ccs, file, tf, lkc, hvs, hfile⟩ := Fi.file
  obtain ⟨cl, cld, csl, lkl⟩ := Fi.cell
  obtain ⟨ar, har, hps⟩ := hself
  obtain ⟨cdD, hD, _, _, _⟩ := T.cd xt
  refine ⟨len, fun A outer s H args us vs Q E hr e0 hb r hsp => ?_⟩
  have hl := len _ _ _ _ hsp
  have KX : K.In s.heap := e0.mod.kin.keeps fun b o e => (e0.bs b o e).1
  have lim : s.heap.NoLimit := e0.mod.nolimit.keeps fun b o e => (e0.bs b o e).1
  have hloc : ∀ y ∈ ps.zip us, scope.names.lookup y.1 = some .local := fun ⟨n, v⟩ hy => S.par n (List.of_mem_zip hy).1
  refine PySem.ks_codeAny_call_defAt (body := _ :: rest) (binds := ps.zip us) hr.depth (KX _ _ lk) rfl lim (PySem.W.codeRec_of KX Fi.code) rfl hb S.nocell hloc (fun h₁ hns kp => ?_) S.co S.gen S.kind
  obtain ⟨a, ta, t, hv0, ea, hpa, hpss, hta⟩ := hbody A outer s H vs Q E (hr.deeper _) hsp
  obtain ⟨oCC, hcellO⟩ : ∃ o, s.heap.get? cc = some o := ⟨_, KX _ _ lkl⟩
  have ccfree : H cc = none := (e0.bs cc _ (e0.mod.kin _ _ lkl)).2
  have lookC : ∀ {y : Str} {c : Addr}, List.lookup y [(("__class__" : Str), cc)] = some c → y = "__class__" ∧ c = cc := fun {y c} e => by
    by_cases q : y = "__class__"
    · subst q
      simp [List.lookup] at e
      exact ⟨rfl, e.symm⟩
    · have q2 : (y == ("__class__" : Str)) = false := by simpa using q
      simp [List.lookup, q2] at e
  have cells : CellsAt [("__class__", cc)] ["__class__"] [none] s.heap H := by
    refine ⟨rfl, fun y c e => ?_, fun y z c e1 e2 => ?_, fun i y e => ?_⟩
    · rw [(lookC e).2]
      exact ⟨ccfree, _, _, KX _ _ lkl, rfl⟩
    · rw [(lookC e1).1, (lookC e2).1]
    · cases i with
      | succ i => cases i <;> cases e
      | zero =>
        cases e
        refine ⟨cc, by simp, fun v hv => ?_⟩
        cases hv
  have I := inv_startN (CX := CX) (F := nfOf name qual params (.Expr (.Call (.Attribute (.Call (.Name "super" p0) [] [] p1) "__init__" p2) [te] [] p3) p4 :: rest) scope cc cda) (f := f) (E := E) (tk := s.toks + (ps.zip us).length) S hr.hd e0 hl r cells hns kp
  have hk0 : scope.names.lookup ("__class__" : Str) = some .free := S.frk _ (by simp)
  have hkar : scope.names.lookup ar.arg = some .local := S.par _ (List.mem_of_getElem? hps)
  -- self is at the first place
  obtain ⟨u0, hu0, ru0⟩ : ∃ u0, us[0]? = some u0 ∧ RelV (.ref a) u0 := r.get hv0
  obtain rfl : u0 = Value.ref a := ru0
  have ndP : ps.Nodup := by
    have q := S.nd.sublist (List.take_sublist (ps.length + 1) N)
    rw [show N.take (ps.length + 1) = ps ++ [("__class__" : Str)] from S.pre] at q
    exact (List.nodup_append.mp q).1
  have hself : (ps.zip us).reverse.lookup ar.arg = some (.ref a) := zip_look ndP hps hu0
  obtain ⟨t1, hoa⟩ := exo_at I.hok ea
  have k1 : K.In h₁ := KX.keeps kp
  have hDo : ∃ oD, h₁.get? C = some oD ∧ oD.data = .cls cdD := by
    unfold PySem.W.clsIn at hD
    split at hD
    · rename_i c d cd' sl ho
      cases hD
      exact ⟨_, k1 _ _ ho, rfl⟩
    · cases hD
  obtain ⟨oD, hD1, hD2⟩ := hDo
  have quiet : interactive (callEnv (ksFn name qual params (.Expr (.Call (.Attribute (.Call (.Name "super" p0) [] [] p1) "__init__" p2) [te] [] p3) p4 :: rest) scope dV kV doc pm an (.ref cda) ct cc) s.heap.objs.size f) = false := I.quiet
  refine PySem.ks_wpAt_execs_cons (PySem.ks_wpAt_Expr_any (PySem.ks_wpAt_MethodCall (pl := pl) ?_ (he _)) quiet rfl)
  refine PySem.ks_wpAt_super_base (f := f) (cc := cda) hsup hk0 (by decide) rfl (k1 _ _ lk) rfl har rfl (k1 _ _ lkc) rfl hvs hfile htop ?_
  obtain ⟨mb, hb1, hb2⟩ := I.mod.blt
  refine PySem.W.ks_loadName_global S.kind hsup ?_
  refine Calls.loadGlobal_builtin (I.mod.glob.keeps I.bk) hm (hb1.keeps I.bk) ((hb2 _ (by decide)).trans (by rfl)) ⟨rfl, ?_⟩
  refine wpAny_loadName_free (v := .ref C) S.kind hk0 rfl ⟨_, k1 _ _ lkl, rfl⟩ ?_
  refine wpAny_loadName_local S.kind hkar hns hself ?_
  refine PySem.ks_wpAny_isType_cls hD1 hD2 ⟨rfl, ?_⟩
  refine PySem.ks_wpAny_call_super hD1 hD2 hoa rfl (fun c e => by cases e) (PySem.W.looks_mroIn k1 Fi.mroC) fun h2 hso k2 => ?_
  have I2 := I.kept (h' := h2) (t' := s.toks + (ps.zip us).length) k2
  have k2' : K.In h2 := k1.keeps k2
  have hoa2 := k2 _ _ hoa
  have isB : PySem.W.Looks (model P w) h2 (isInstance (.ref a) (.type B)) true :=
    (show PySem.W.InstAt h2 a _ C none from ⟨hoa2, rfl, rfl, trivial⟩).type.andThen (PySem.W.looks_subIn k2' Fi.sub)
  have sup := Fi.sup
  unfold PySem.W.ks_superIn at sup
  rw [hD] at sup
  have lm : PySem.W.Looks (model P w) h2 (mroOf (.ref C)) cdD.mro := fun A Q E s k q => wpAny_bind ((PySem.W.looks_clsIn k2' hD) A _ E s k (wpAny_pure q))
  have nac : a ≠ C := fun z => by
    rw [z, hD1] at hoa
    cases hoa
    cases hD2
  refine PySem.W.kxs_getMethod xt.kx hso (PySem.W.looks_opaque k2' Fi.third) lm rfl k2' sup isB nac (by decide) ?_
  have k3 : ∀ b o, h2.get? b = some o → (h2.push (kxs_mw initId a)).get? b = some o := fun b o e => Heap.get?_push_of_some _ e
  have I3 := I2.kept (h' := h2.push (kxs_mw initId a)) (t' := s.toks + (ps.zip us).length + 1) k3
  have hu3 : (h2.push (kxs_mw initId a)).get? h2.objs.size = some (kxs_mw initId a) := Heap.get?_push_size _ rfl
  have szs : s.heap.objs.size < h₁.objs.size := by
    obtain ⟨m, o, es, ep, ho, _⟩ : ∃ m, h₁.Ns s.heap.objs.size m := ⟨_, hns⟩
    exact Heap.lt_size ho
  have sz2 : s.heap.objs.size < h2.objs.size := by
    obtain ⟨m, o, es, ep, ho, _⟩ : ∃ m, h₁.Ns s.heap.objs.size m := ⟨_, hns⟩
    exact Heap.lt_size (k2 _ _ ho)
  have I3' := inv_pin (p := (h2.objs.size, kxs_mw initId a)) I3 hu3 (I2.hok.fresh (Nat.le_refl _)) (Nat.ne_of_gt sz2) (fun z => I2.nofs (Nat.le_refl _) z) (fun v z => by cases z)
  have run := hpa.run p3 [(h2.objs.size, kxs_mw initId a)] _ _ H _ I3' hta
  rw [hst] at run ⊢
  refine PySem.W.kxs_callWith (i := initId) (x := a) (by rfl) (PySem.Calls.evalArgs_plain ?_)
  refine thn run fun us' s4 ⟨vs', H1, I4, r4, hlen, ea4, q4⟩ => ?_
  have hu4 := (I4.pin (h2.objs.size, kxs_mw initId a) (by simp)).1
  refine ⟨hu4, ?_⟩
  obtain ⟨t4, ho4⟩ := exo_at I4.hok ea4
  obtain ⟨h4, g4, d4, tk4, os4⟩ := s4
  refine call_mw xt T I4.kIn ho4 hu4 (by rw [List.nil_append]; show us'.length ≤ _; rw [← Paired.length r4, sizeLine_eq]; omega) fun h5 t5 k5 e5 => ?_
  have J := I4.write (t' := tk4) (x := a) (e := a) (o := exo a C none) (by rw [ea4]; exact True.intro) (.inl rfl) k5 ⟨_, e5⟩ (exo_ok e5)
  have eu : upd H1 a (exo a C none) = H1 := by
    funext b
    by_cases hb : b = a
    · rw [hb, upd_same, ea4]
    · rw [upd_ne hb]
  rw [eu] at J
  refine wpAt_of_wpAny (wpAny_mono (hpss.run _ _ _ H1 _ J q4) (fun fl s' hs => ?_) fun e s' hs => hs)
  have fin : ∀ {σ' : L2.St} {H' : Hp} {v : V} {u : Value} {pins : List (Addr × Obj)}, Inv (ncx CX P w K mg base N (nfOf name qual params (.Expr (.Call (.Attribute (.Call (.Name "super" p0) [] [] p1) "__init__" p2) [te] [] p3) p4 :: rest) scope cc cda) f A outer s H E) pins σ' H' s' → RelV v u → Q v H' → CE outer P w H s Q u s' :=
    fun {σ' H' v u pins} J rv q => ⟨v, H', J.os, J.bare, J.base, J.hok, rv, q⟩
  rcases fl with _ | _ | _ | u
  · obtain ⟨σ', H', J', q⟩ := hs
    exact fin (v := V.non) (u := Value.none) J' rfl q
  · obtain ⟨_, _, _, q⟩ := hs
    exact False.elim q
  · obtain ⟨_, _, _, q⟩ := hs
    exact False.elim q
  · obtain ⟨v, σ', H', J', rv, q⟩ := hs
    exact fin J' rv q
end DX

/-! DL1: data by value over an abstract heap: D, Rep, Sim, the outcomes, the readings tE, tS. -/
namespace DL
open PySem PySem.Spec PyProof.Rows L2

/-- a value as a tree; what may change stands in the store, at a place -/
inductive D where
  | non | bl (b : Bool) | int (i : Int) | str (x : Str)
  | tup (xs : List D) | lst (xs : List D) | dct (kvs : List (D × D))
  | ins (c : Nat) (fs : List (Str × D)) | loc (l : Nat) | frz (xs : List D) | exc (c : Nat) (fs : List (Str × D))
  deriving Inhabited

/-- what stands at a place of the store -/
inductive MO where
  | lst (xs : List D) | dct (kvs : List (D × D)) | ins (c : Nat) (fs : List (Str × D)) | dead
  deriving Inhabited
abbrev Sto := List MO
/-- the static part: the written heap, the classes' addresses -/
structure G where
  K : PySem.W.Frag
  C : Nat → Addr
  T : List (Addr × Str) := []
/-- at a: an exception of the class at C, its dict at d -/
def exv (a C : Addr) (d : Option Addr) : HO := .ext fun h => ∃ (o : Obj) (vs : Array Value), h.get? a = some o ∧ o.cls = .ref C ∧ o.dict = d ∧ o.data = .fields vs
/-- the ghost part: what stays as it is for ever, and where the places lie -/
structure Mt where
  I : Hp
  m : List Addr

def keyD : Key → D
  | .inl i => .int i
  | .inr x => .str x

mutual
inductive Rep (g : G) (M : Mt) : V → D → Prop where
  | non : Rep g M .non .non
  | bl (b : Bool) : Rep g M (.bl b) (.bl b)
  | int (i : Int) : Rep g M (.int i) (.int i)
  | str (x : Str) : Rep g M (.str x) (.str x)
  | tup {a : Addr} {vs : List V} {ds : List D} : SqT g.K M.I a vs → Reps g M vs ds → Rep g M (.ref a) (.tup ds)
  | lst {a : Addr} {vs : List V} {ds : List D} : M.I a = some (.lst vs) → Reps g M vs ds → Rep g M (.ref a) (.lst ds)
  | frz {a : Addr} {vs : List V} {ds : List D} : SqL g.K M.I a vs → Reps g M vs ds → Rep g M (.ref a) (.frz ds)
  | dK {a : Addr} {ks : List (Key × V)} {ds : List (D × D)} : M.I a = some (.dK ks) → RepK g M ks ds → Rep g M (.ref a) (.dct ds)
  | dT {a : Addr} {ks : List (List Key × V)} {ds : List (D × D)} : M.I a = some (.dT ks) → RepT g M ks ds → Rep g M (.ref a) (.dct ds)
  | ins {a dx : Addr} {c : Nat} {fs : List (Str × V)} {ds : List (Str × D)} : M.I a = some (.ins (g.C c) dx fs) → RepF g M fs ds → Rep g M (.ref a) (.ins c ds)
  | exc {a dx : Addr} {c : Nat} {fs : List (Str × V)} {ds : List (Str × D)} : M.I a = some (exv a (g.C c) (some dx)) → M.I dx = some (.xd fs) → RepF g M fs ds → Rep g M (.ref a) (.exc c ds)
  | loc {l : Nat} {a : Addr} : M.m[l]? = some a → Rep g M (.ref a) (.loc l)
inductive Reps (g : G) (M : Mt) : List V → List D → Prop where
  | nil : Reps g M [] []
  | cons {v : V} {vs : List V} {d : D} {ds : List D} : Rep g M v d → Reps g M vs ds → Reps g M (v :: vs) (d :: ds)
inductive RepK (g : G) (M : Mt) : List (Key × V) → List (D × D) → Prop where
  | nil : RepK g M [] []
  | cons {k : Key} {v : V} {vs : List (Key × V)} {d : D} {ds : List (D × D)} : Rep g M v d → RepK g M vs ds → RepK g M ((k, v) :: vs) ((keyD k, d) :: ds)
inductive RepT (g : G) (M : Mt) : List (List Key × V) → List (D × D) → Prop where
  | nil : RepT g M [] []
  | cons {k : List Key} {v : V} {vs : List (List Key × V)} {d : D} {ds : List (D × D)} : Rep g M v d → RepT g M vs ds → RepT g M ((k, v) :: vs) ((.tup (k.map keyD), d) :: ds)
inductive RepF (g : G) (M : Mt) : List (Str × V) → List (Str × D) → Prop where
  | nil : RepF g M [] []
  | cons {k : Str} {v : V} {vs : List (Str × V)} {d : D} {ds : List (Str × D)} : Rep g M v d → RepF g M vs ds → RepF g M ((k, v) :: vs) ((k, d) :: ds)
end

structure Mt.Le (M M' : Mt) : Prop where
  I : ∀ a o, M.I a = some o → M'.I a = some o
  m : ∃ t, M'.m = M.m ++ t
theorem Mt.Le.refl (M : Mt) : M.Le M := ⟨fun _ _ h => h, [], by simp⟩
theorem Mt.Le.trans {M M1 M2 : Mt} (a : M.Le M1) (b : M1.Le M2) : M.Le M2 := by
  obtain ⟨t, e⟩ := a.m
  obtain ⟨t', e'⟩ := b.m
  exact ⟨fun c o h => b.I c o (a.I c o h), t ++ t', by rw [e', e, List.append_assoc]⟩
theorem Mt.Le.at {M M' : Mt} (a : M.Le M') {l : Nat} {x : Addr} (h : M.m[l]? = some x) : M'.m[l]? = some x := by
  obtain ⟨t, e⟩ := a.m
  have hl := (List.getElem?_eq_some_iff.mp h).1
  rw [e, List.getElem?_append_left hl]
  exact h
theorem rd_le {I I' : Hp} {a : Addr} {u : HO} (h : ∀ a o, I a = some o → I' a = some o) (r : Rd I a u) : Rd I' a u := by
  rcases r with r | ⟨o, r⟩
  · exact .inl (h _ _ r)
  · exact .inr ⟨o, h _ _ r⟩
theorem sqt_le {K : PySem.W.Frag} {I I' : Hp} {a : Addr} {xs : List V} (h : ∀ a o, I a = some o → I' a = some o) (r : SqT K I a xs) : SqT K I' a xs := by
  rcases r with r | r
  · exact .inl (rd_le h r)
  · exact .inr r
theorem sql_le {K : PySem.W.Frag} {I I' : Hp} {a : Addr} {xs : List V} (h : ∀ a o, I a = some o → I' a = some o) (r : SqL K I a xs) : SqL K I' a xs := by
  rcases r with r | r
  · exact .inl (rd_le h r)
  · exact .inr r
section
variable {g : G} {M M' : Mt}
mutual
theorem Rep.le (h : M.Le M') : ∀ {v : V} {d : D}, Rep g M v d → Rep g M' v d
  | _, _, .non => .non
  | _, _, .bl b => .bl b
  | _, _, .int i => .int i
  | _, _, .str x => .str x
  | _, _, .tup a b => .tup (sqt_le h.I a) (Reps.le h b)
  | _, _, .lst a b => .lst (h.I _ _ a) (Reps.le h b)
  | _, _, .frz a b => .frz (sql_le h.I a) (Reps.le h b)
  | _, _, .dK a b => .dK (h.I _ _ a) (RepK.le h b)
  | _, _, .dT a b => .dT (h.I _ _ a) (RepT.le h b)
  | _, _, .ins a b => .ins (h.I _ _ a) (RepF.le h b)
  | _, _, .exc a b c => .exc (h.I _ _ a) (h.I _ _ b) (RepF.le h c)
  | _, _, .loc a => .loc (h.at a)
theorem Reps.le (h : M.Le M') : ∀ {vs : List V} {ds : List D}, Reps g M vs ds → Reps g M' vs ds
  | _, _, .nil => .nil
  | _, _, .cons a b => .cons (Rep.le h a) (Reps.le h b)
theorem RepK.le (h : M.Le M') : ∀ {vs : List (Key × V)} {ds : List (D × D)}, RepK g M vs ds → RepK g M' vs ds
  | _, _, .nil => .nil
  | _, _, .cons a b => .cons (Rep.le h a) (RepK.le h b)
theorem RepT.le (h : M.Le M') : ∀ {vs : List (List Key × V)} {ds : List (D × D)}, RepT g M vs ds → RepT g M' vs ds
  | _, _, .nil => .nil
  | _, _, .cons a b => .cons (Rep.le h a) (RepT.le h b)
theorem RepF.le (h : M.Le M') : ∀ {vs : List (Str × V)} {ds : List (Str × D)}, RepF g M vs ds → RepF g M' vs ds
  | _, _, .nil => .nil
  | _, _, .cons a b => .cons (Rep.le h a) (RepF.le h b)
end
end
/-- what stands stays, but a table of code objects may grow -/
def StO (o o' : HO) : Prop := o' = o ∨ ∃ ps ps', o = .tbl ps ∧ o' = .tbl ps'
theorem StO.refl (o : HO) : StO o o := .inl rfl
theorem StO.trans {a b c : HO} (h : StO a b) (k : StO b c) : StO a c := by
  rcases h with rfl | ⟨p, p', rfl, rfl⟩
  · exact k
  · rcases k with rfl | ⟨q, q', h1, rfl⟩
    · exact .inr ⟨p, p', rfl, rfl⟩
    · exact .inr ⟨p, q', rfl, rfl⟩
theorem StO.eq {a b : HO} (h : StO a b) (n : ∀ ps, a ≠ .tbl ps) : b = a := by
  rcases h with h | ⟨p, _, h, _⟩
  · exact h
  · exact absurd h (n p)
end DL

namespace DL
open PySem PySem.Spec PyProof.Rows L2

def MO.live : MO → Bool
  | .dead => false
  | _ => true
/-- what stands at a place, in the heap -/
inductive MoR (g : G) (M : Mt) (H : Hp) (a : Addr) : MO → Prop where
  | lst {vs : List V} {ds : List D} : H a = some (.lst vs) → Reps g M vs ds → MoR g M H a (.lst ds)
  | dK {ks : List (Key × V)} {ds : List (D × D)} : H a = some (.dK ks) → RepK g M ks ds → MoR g M H a (.dct ds)
  | dT {ks : List (List Key × V)} {ds : List (D × D)} : H a = some (.dT ks) → RepT g M ks ds → MoR g M H a (.dct ds)
  | ins {dx : Addr} {c : Nat} {fs : List (Str × V)} {ds : List (Str × D)} : H a = some (.ins (g.C c) dx fs) → RepF g M fs ds → MoR g M H a (.ins c ds)
theorem MoR.ob {g : G} {M : Mt} {H : Hp} {a : Addr} {mo : MO} (h : MoR g M H a mo) : ∃ o, H a = some o := by
  cases h <;> exact ⟨_, by assumption⟩
theorem MoR.kind {g : G} {M : Mt} {H : Hp} {a : Addr} {mo : MO} (h : MoR g M H a mo) : (∀ ps, H a ≠ some (.tbl ps)) ∧ ∀ c q, H a ≠ some (LamX.CodeO c q) := by
  cases h with
  | lst e _ => exact ⟨fun ps z => by rw [e] at z; (have z := Option.some.inj z; cases z), fun c q z => by rw [e] at z; (have z := Option.some.inj z; unfold LamX.CodeO at z; cases z)⟩
  | dK e _ => exact ⟨fun ps z => by rw [e] at z; (have z := Option.some.inj z; cases z), fun c q z => by rw [e] at z; (have z := Option.some.inj z; unfold LamX.CodeO at z; cases z)⟩
  | dT e _ => exact ⟨fun ps z => by rw [e] at z; (have z := Option.some.inj z; cases z), fun c q z => by rw [e] at z; (have z := Option.some.inj z; unfold LamX.CodeO at z; cases z)⟩
  | ins e _ => exact ⟨fun ps z => by rw [e] at z; (have z := Option.some.inj z; cases z), fun c q z => by rw [e] at z; (have z := Option.some.inj z; unfold LamX.CodeO at z; cases z)⟩
theorem MoR.le {g : G} {M M' : Mt} {H H' : Hp} {a : Addr} {mo : MO} (l : M.Le M') (e : ∀ o, H a = some o → H' a = some o) (h : MoR g M H a mo) : MoR g M' H' a mo := by
  cases h with
  | lst a b => exact .lst (e _ a) (Reps.le l b)
  | dK a b => exact .dK (e _ a) (RepK.le l b)
  | dT a b => exact .dT (e _ a) (RepT.le l b)
  | ins a b => exact .ins (e _ a) (RepF.le l b)

/-- the tables of code objects: what they tell is known for ever -/
def TabsM (T : List (Addr × Str)) (H I : Hp) : Prop := ∀ p ∈ T, ∃ ps : Array Value, H p.1 = some (.tbl ps) ∧ TriplesOk ps.toList ∧ ∀ (pos : Pos) (cv : Value), codeAmong pos ps.toList = some cv → ∃ c, cv = .ref c ∧ I c = some (LamX.CodeO c p.2)
theorem TabsM.le {T : List (Addr × Str)} {H I I' : Hp} (t : TabsM T H I) (l : ∀ a o, I a = some o → I' a = some o) : TabsM T H I' := fun p hp => by
  obtain ⟨ps, e1, e2, e3⟩ := t p hp
  refine ⟨ps, e1, e2, fun pos cv hc => ?_⟩
  obtain ⟨c, e4, e5⟩ := e3 pos cv hc
  exact ⟨c, e4, l _ _ e5⟩
theorem tabs_at {T : List (Addr × Str)} {H I I' : Hp} {a : Addr} {o : HO} (t : TabsM T H I) (h1 : ∀ ps, H a ≠ some (.tbl ps)) (l : ∀ a o, I a = some o → I' a = some o) : TabsM T (upd H a o) I' := fun p hp => by
  obtain ⟨ps, e1, e2, e3⟩ := t.le l p hp
  exact ⟨ps, by rw [upd_ne (show p.1 ≠ a from fun z => h1 ps (by rw [← z]; exact e1))]; exact e1, e2, e3⟩
theorem tabs_new {T : List (Addr × Str)} {H I I' : Hp} {p : Addr} {o : HO} (t : TabsM T H I) (np : H p = none) (l : ∀ a o, I a = some o → I' a = some o) : TabsM T (upd H p o) I' := tabs_at t (fun ps z => by rw [np] at z; cases z) l
structure Sim (g : G) (M : Mt) (H : Hp) (S : Sto) : Prop where
  len : M.m.length = S.length
  nd : M.m.Nodup
  im : ∀ a o, M.I a = some o → H a = some o
  ex : ∀ a ∈ M.m, ∃ o, H a = some o
  lv : ∀ (l : Nat) (a : Addr) (mo : MO), M.m[l]? = some a → S[l]? = some mo → mo.live = true → M.I a = none ∧ MoR g M H a mo
  tb : TabsM g.T H M.I
  nt : ∀ a ps, M.I a ≠ some (.tbl ps)
  tm : ∀ p ∈ g.T, p.1 ∉ M.m
/-- the frame's slots -/
abbrev Env := List (Option D)
def EnvR (g : G) (M : Mt) (σ : L2.St) (e : Env) : Prop := e.length = σ.length ∧ ∀ (i : Nat) (d : D), e[i]? = some (some d) → ∃ v, σ[i]? = some (some v) ∧ Rep g M v d
theorem EnvR.le {g : G} {M M' : Mt} {σ : L2.St} {e : Env} (h : M.Le M') (r : EnvR g M σ e) : EnvR g M' σ e :=
  ⟨r.1, fun i d q => let ⟨v, a, b⟩ := r.2 i d q; ⟨v, a, b.le h⟩⟩
theorem EnvR.set {g : G} {M : Mt} {σ : L2.St} {e : Env} {i : Nat} {v : V} {d : D} (r : EnvR g M σ e) (q : Rep g M v d) : EnvR g M (σ.set i (some v)) (e.set i (some d)) := by
  refine ⟨by simp [r.1], fun j d' h => ?_⟩
  by_cases hj : i = j
  · subst hj
    have hl : i < (e.set i (some d)).length := (List.getElem?_eq_some_iff.mp h).1
    rw [List.length_set] at hl
    rw [List.getElem?_set_self hl] at h
    cases h
    exact ⟨v, by rw [List.getElem?_set_self (by rw [← r.1]; exact hl)], q⟩
  · rw [List.getElem?_set_ne hj] at h ⊢
    exact r.2 j d' h
theorem EnvR.drop {g : G} {M : Mt} {σ : L2.St} {e : Env} {i : Nat} {o : Option V} (r : EnvR g M σ e) : EnvR g M (σ.set i o) (e.set i none) := by
  refine ⟨by simp [r.1], fun j d' h => ?_⟩
  by_cases hj : i = j
  · subst hj
    have hl : i < (e.set i (none : Option D)).length := (List.getElem?_eq_some_iff.mp h).1
    rw [List.length_set] at hl
    rw [List.getElem?_set_self hl] at h
    cases h
  · rw [List.getElem?_set_ne hj] at h ⊢
    exact r.2 j d' h

/-- from one state to a later one -/
structure Nxt (g : G) (M : Mt) (H : Hp) (S' : Sto) (M' : Mt) (H' : Hp) : Prop where
  le : M.Le M'
  fr : ∀ a o, H a = some o → a ∉ M.m → ∃ o', H' a = some o' ∧ StO o o'
  nm : ∀ a, a ∈ M'.m → a ∈ M.m ∨ H a = none
  nI : ∀ a o, M'.I a = some o → M.I a = some o ∨ a ∈ M.m ∨ H a = none
  sim : Sim g M' H' S'
theorem Nxt.refl {g : G} {M : Mt} {H : Hp} {S : Sto} (s : Sim g M H S) : Nxt g M H S M H :=
  ⟨.refl _, fun _ o h _ => ⟨o, h, .refl _⟩, fun _ h => .inl h, fun _ _ h => .inl h, s⟩
theorem Nxt.trans {g : G} {M M1 M2 : Mt} {H H1 H2 : Hp} {S1 S2 : Sto} (a : Nxt g M H S1 M1 H1) (b : Nxt g M1 H1 S2 M2 H2) : Nxt g M H S2 M2 H2 := by
  have back : ∀ c, H1 c = none → c ∈ M.m ∨ H c = none := fun c h => by
    by_cases hc : c ∈ M.m
    · exact .inl hc
    · cases e : H c with
      | none => exact .inr rfl
      | some o => obtain ⟨o', h', _⟩ := a.fr c o e hc; rw [h'] at h; cases h
  refine ⟨a.le.trans b.le, fun c o h n => ?_, fun c h => ?_, fun c o h => ?_, b.sim⟩
  · obtain ⟨o1, h1, k1⟩ := a.fr c o h n
    obtain ⟨o2, h2, k2⟩ := b.fr c o1 h1 fun z => by
      rcases a.nm c z with z | z
      · exact n z
      · rw [h] at z; cases z
    exact ⟨o2, h2, k1.trans k2⟩
  · rcases b.nm c h with h | h
    · exact a.nm c h
    · exact back c h
  · rcases b.nI c o h with h | h | h
    · exact a.nI c o h
    · exact .inr (a.nm c h)
    · exact .inr (back c h)

/-- a new object that stays as it is: laid at p -/
theorem Nxt.frN {g : G} {M M' : Mt} {H H' : Hp} {S' : Sto} {a : Addr} {o : HO} (n : Nxt g M H S' M' H') (h : H a = some o) (h1 : a ∉ M.m) (ht : ∀ ps, o ≠ .tbl ps) : H' a = some o := by
  obtain ⟨o', e, k⟩ := n.fr a o h h1
  rw [k.eq ht] at e
  exact e
theorem Nxt.laid {g : G} {M : Mt} {H : Hp} {S : Sto} {p : Addr} {o : HO} (s : Sim g M H S) (np : H p = none) (nt : ∀ ps, o ≠ .tbl ps := by intro _ z; cases z) : Nxt g M H S ⟨upd M.I p o, M.m⟩ (upd H p o) := by
  have nI : ∀ a u, M.I a = some u → a ≠ p := fun a u h z => by subst z; rw [s.im _ _ h] at np; cases np
  have nm : ∀ a ∈ M.m, a ≠ p := fun a h z => by subst z; obtain ⟨u, e⟩ := s.ex _ h; rw [e] at np; cases np
  have le : M.Le ⟨upd M.I p o, M.m⟩ := ⟨fun a u h => by show upd M.I p o a = _; rw [upd_ne (nI a u h)]; exact h, [], by simp⟩
  refine ⟨le, fun a u h _ => ?_, fun a h => .inl h, fun a u h => ?_, ⟨s.len, s.nd, fun a u h => ?_, fun a h => ?_, fun l a mo h1 h2 h3 => ?_, tabs_new s.tb np le.I, fun a ps z => ?_, s.tm⟩⟩
  · exact ⟨u, by rw [upd_ne (ne_of_none h np)]; exact h, .refl _⟩
  · by_cases z : a = p
    · exact .inr (.inr (z ▸ np))
    · have h : upd M.I p o a = some u := h
      rw [upd_ne z] at h; exact .inl h
  · have h : upd M.I p o a = some u := h
    by_cases z : a = p
    · subst z; rw [upd_same] at h ⊢; exact h
    · rw [upd_ne z] at h ⊢; exact s.im _ _ h
  · obtain ⟨u, e⟩ := s.ex a h
    exact ⟨u, by rw [upd_ne (nm a h)]; exact e⟩
  · obtain ⟨q1, q2⟩ := s.lv l a mo h1 h2 h3
    have hm : a ∈ M.m := List.mem_of_getElem? h1
    refine ⟨by show upd M.I p o a = none; rw [upd_ne (nm a hm)]; exact q1, q2.le le fun u e => by rw [upd_ne (nm a hm)]; exact e⟩
  · have z : upd M.I p o a = some (.tbl ps) := z
    by_cases y : a = p
    · subst y; rw [upd_same] at z; exact nt ps (Option.some.inj z)
    · rw [upd_ne y] at z; exact s.nt a ps z
/-- a new object that may change: laid at p, at the next place -/
theorem Nxt.grow {g : G} {M : Mt} {H : Hp} {S : Sto} {p : Addr} {o : HO} {mo : MO} (s : Sim g M H S) (np : H p = none) (q : ∀ M', M.Le M' → MoR g M' (upd H p o) p mo) : Nxt g M H (S ++ [mo]) ⟨M.I, M.m ++ [p]⟩ (upd H p o) := by
  have nI : ∀ a u, M.I a = some u → a ≠ p := fun a u h z => by subst z; rw [s.im _ _ h] at np; cases np
  have nm : ∀ a ∈ M.m, a ≠ p := fun a h z => by subst z; obtain ⟨u, e⟩ := s.ex _ h; rw [e] at np; cases np
  have le : M.Le ⟨M.I, M.m ++ [p]⟩ := ⟨fun _ _ h => h, [p], rfl⟩
  refine ⟨le, fun a u h _ => ?_, fun a h => ?_, fun a u h => .inl h, ⟨?_, ?_, fun a u h => ?_, fun a h => ?_, fun l a mo' h1 h2 h3 => ?_, tabs_new s.tb np le.I, s.nt, fun q hq z => (List.mem_append.mp z).elim (s.tm q hq) fun z => by
    obtain ⟨ps, e, _⟩ := s.tb q hq
    rw [List.mem_singleton.mp z, np] at e
    cases e⟩⟩
  · exact ⟨u, by rw [upd_ne (ne_of_none h np)]; exact h, .refl _⟩
  · rcases List.mem_append.mp h with h | h
    · exact .inl h
    · exact .inr (by rw [List.mem_singleton.mp h]; exact np)
  · show (M.m ++ [p]).length = _
    simp [s.len]
  · show (M.m ++ [p]).Nodup
    rw [List.nodup_append]
    refine ⟨s.nd, by simp, fun a ha b hb => ?_⟩
    rw [List.mem_singleton.mp hb]
    exact nm a ha
  · show upd H p o a = _
    rw [upd_ne (nI a u h)]; exact s.im _ _ h
  · rcases List.mem_append.mp h with h | h
    · obtain ⟨u, e⟩ := s.ex a h
      exact ⟨u, by rw [upd_ne (nm a h)]; exact e⟩
    · rw [List.mem_singleton.mp h]; exact ⟨o, upd_same⟩
  · have h1 : (M.m ++ [p])[l]? = some a := h1
    by_cases hl : l < M.m.length
    · rw [List.getElem?_append_left hl] at h1
      rw [List.getElem?_append_left (by rw [← s.len]; exact hl)] at h2
      obtain ⟨q1, q2⟩ := s.lv l a mo' h1 h2 h3
      have hm : a ∈ M.m := List.mem_of_getElem? h1
      exact ⟨q1, q2.le le fun u e => by rw [upd_ne (nm a hm)]; exact e⟩
    · have hl' : M.m.length ≤ l := by omega
      rw [List.getElem?_append_right hl'] at h1
      rw [List.getElem?_append_right (by rw [← s.len]; exact hl'), ← s.len] at h2
      cases e : l - M.m.length with
      | succ n => rw [e] at h1; simp at h1
      | zero =>
        rw [e] at h1 h2
        simp at h1 h2
        subst h1 h2
        refine ⟨?_, q _ le⟩
        cases e' : M.I p with
        | none => rfl
        | some u => exact absurd rfl (nI p u e')
/-- what stands at a place is changed -/
theorem Nxt.write {g : G} {M : Mt} {H : Hp} {S : Sto} {l : Nat} {a : Addr} {o : HO} {mo mo' : MO} (s : Sim g M H S) (ha : M.m[l]? = some a) (hs : S[l]? = some mo) (hl : mo.live = true) (q : MoR g M (upd H a o) a mo') : Nxt g M H (S.set l mo') M (upd H a o) := by
  obtain ⟨nI, q0⟩ := s.lv l a mo ha hs hl
  have hm : a ∈ M.m := List.mem_of_getElem? ha
  refine ⟨.refl _, fun b u h n => ?_, fun b h => .inl h, fun b u h => .inl h, ⟨by rw [List.length_set]; exact s.len, s.nd, fun b u h => ?_, fun b h => ?_, fun k b mo2 h1 h2 h3 => ?_, tabs_at s.tb q0.kind.1 (fun _ _ h => h), s.nt, s.tm⟩⟩
  · exact ⟨u, by rw [upd_ne (show b ≠ a from fun z => n (by rw [z]; exact hm))]; exact h, .refl _⟩
  · have : b ≠ a := fun z => by subst z; rw [nI] at h; cases h
    rw [upd_ne this]; exact s.im _ _ h
  · by_cases z : b = a
    · subst z; exact ⟨o, upd_same⟩
    · rw [upd_ne z]; exact s.ex b h
  · by_cases hk : l = k
    · subst hk
      have hlt : l < S.length := by rw [← s.len]; exact (List.getElem?_eq_some_iff.mp ha).1
      rw [List.getElem?_set_self hlt] at h2
      rw [ha] at h1
      cases h1; cases h2
      exact ⟨nI, q⟩
    · rw [List.getElem?_set_ne hk] at h2
      obtain ⟨q1, q2⟩ := s.lv k b mo2 h1 h2 h3
      refine ⟨q1, q2.le (.refl _) fun u e => ?_⟩
      rw [upd_ne fun z => ?_]; exact e
      subst z
      exact hk (by
        have h1' := List.getElem?_eq_some_iff.mp h1
        have ha' := List.getElem?_eq_some_iff.mp ha
        exact (List.getElem_inj s.nd).mp (ha'.2.trans h1'.2.symm))
/-- from now on it stays as it is -/
def MO.val : MO → D
  | .lst ds => .lst ds
  | .dct ks => .dct ks
  | .ins c fs => .ins c fs
  | .dead => .non
theorem Nxt.freeze {g : G} {M : Mt} {H : Hp} {S : Sto} {l : Nat} {a : Addr} {mo : MO} (s : Sim g M H S) (ha : M.m[l]? = some a) (hs : S[l]? = some mo) (hl : mo.live = true) :
    ∃ M', Nxt g M H (S.set l .dead) M' H ∧ Rep g M' (.ref a) mo.val := by
  obtain ⟨nI, q⟩ := s.lv l a mo ha hs hl
  obtain ⟨o, e⟩ := q.ob
  have hm : a ∈ M.m := List.mem_of_getElem? ha
  have le : M.Le ⟨upd M.I a o, M.m⟩ := ⟨fun b u h => by
    show upd M.I a o b = _
    rw [upd_ne fun z => by subst z; rw [nI] at h; cases h]; exact h, [], by simp⟩
  refine ⟨⟨upd M.I a o, M.m⟩, ⟨le, fun b u h _ => ⟨u, h, .refl _⟩, fun b h => .inl h, fun b u h => ?_, ⟨by rw [List.length_set]; exact s.len, s.nd, fun b u h => ?_, s.ex, fun k b mo2 h1 h2 h3 => ?_, s.tb.le le.I, fun b ps z => ?_, s.tm⟩⟩, ?_⟩
  · have h : upd M.I a o b = some u := h
    by_cases z : b = a
    · exact .inr (.inl (z ▸ hm))
    · rw [upd_ne z] at h; exact .inl h
  · have h : upd M.I a o b = some u := h
    by_cases z : b = a
    · subst z; rw [upd_same] at h; cases h; exact e
    · rw [upd_ne z] at h; exact s.im _ _ h
  · by_cases hk : l = k
    · subst hk
      have hlt : l < S.length := by rw [← s.len]; exact (List.getElem?_eq_some_iff.mp ha).1
      rw [List.getElem?_set_self hlt] at h2
      cases h2; cases h3
    · rw [List.getElem?_set_ne hk] at h2
      obtain ⟨q1, q2⟩ := s.lv k b mo2 h1 h2 h3
      refine ⟨?_, q2.le le fun u e => e⟩
      show upd M.I a o b = none
      rw [upd_ne fun z => ?_]; exact q1
      subst z
      have h1' := List.getElem?_eq_some_iff.mp h1
      have ha' := List.getElem?_eq_some_iff.mp ha
      exact hk ((List.getElem_inj s.nd).mp (ha'.2.trans h1'.2.symm))
  · have z : upd M.I a o b = some (.tbl ps) := z
    by_cases y : b = a
    · subst y; rw [upd_same] at z; exact q.kind.1 ps (e.trans z)
    · rw [upd_ne y] at z; exact s.nt b ps z
  · cases q with
    | lst h r => rw [h] at e; cases e; exact .lst (show upd M.I a _ a = _ from upd_same) (r.le le)
    | dK h r => rw [h] at e; cases e; exact .dK (show upd M.I a _ a = _ from upd_same) (r.le le)
    | dT h r => rw [h] at e; cases e; exact .dT (show upd M.I a _ a = _ from upd_same) (r.le le)
    | ins h r => rw [h] at e; cases e; exact .ins (show upd M.I a _ a = _ from upd_same) (r.le le)
end DL

namespace DL
open PySem PySem.Spec PyProof.Rows L2

/-- an exception of a class of the program, with its own attributes -/
structure Exc where
  c : Nat
  fs : List (Str × D)
inductive Ret (α : Type) where
  | ok (a : α) (S : Sto) | exc (e : Exc) (S : Sto) | bad
def Ret.on {α : Type} (r : Ret α) (K : α → Sto → Prop) (E : Exc → Sto → Prop) : Prop := match r with
  | .ok a S => K a S
  | .exc e S => E e S
  | .bad => False
def Ret.bind {α β : Type} (r : Ret α) (k : α → Sto → Ret β) : Ret β := match r with
  | .ok a S => k a S
  | .exc e S => .exc e S
  | .bad => .bad
inductive Out where
  | nx (e : Env) (S : Sto) | rt (d : D) (S : Sto) | bk (e : Env) (S : Sto) | ct (e : Env) (S : Sto) | exc (x : Exc) (e : Env) (S : Sto) | bad
/-- from an expression into a statement -/
def Ret.into {α : Type} (r : Ret α) (e : Env) (k : α → Sto → Out) : Out := match r with
  | .ok a S => k a S
  | .exc x S => .exc x e S
  | .bad => .bad
abbrev Ev := Env → Sto → Ret D
abbrev Tv := Env → Sto → Ret Bool
abbrev Av := Env → Sto → Ret (List D)
abbrev Sv := Env → Sto → Out

theorem Ret.on_bind {α β : Type} {r : Ret α} {k : α → Sto → Ret β} {K : β → Sto → Prop} {E : Exc → Sto → Prop} (h : (r.bind k).on K E) : r.on (fun a S => (k a S).on K E) E := by
  cases r <;> exact h
theorem Ret.on_mono {α : Type} {r : Ret α} {K K' : α → Sto → Prop} {E E' : Exc → Sto → Prop} (h : r.on K E) (hK : ∀ a S, K a S → K' a S) (hE : ∀ e S, E e S → E' e S) : r.on K' E' := by
  cases r with
  | ok a S => exact hK a S h
  | exc e S => exact hE e S h
  | bad => exact h

/-- how an exception lies: its class, the address of its own dict -/
inductive ExR (g : G) (M : Mt) : Value → Option Addr → Exc → Prop where
  | mk {c : Nat} {dx : Addr} {fs : List (Str × V)} {ds : List (Str × D)} : M.I dx = some (.xd fs) → RepF g M fs ds → ExR g M (.ref (g.C c)) (some dx) ⟨c, ds⟩
theorem ExR.le {g : G} {M M' : Mt} {v : Value} {o : Option Addr} {x : Exc} (l : M.Le M') (h : ExR g M v o x) : ExR g M' v o x := by
  cases h with
  | mk a b => exact .mk (l.I _ _ a) (b.le l)

section
variable (g : G)
def kG {α β : Type} (Rl : Mt → α → β → Prop) (M : Mt) (H : Hp) (Q : α → Hp → Prop) : β → Sto → Prop := fun b S' => ∀ a M' H', Nxt g M H S' M' H' → Rl M' a b → Q a H'
abbrev kE := kG g (Rep g)
abbrev kT := kG g (fun _ (a b : Bool) => a = b)
abbrev kA := kG g (Reps g)
def kX (W : WX) (M : Mt) (H : Hp) (σ : L2.St) : Exc → Sto → Prop := fun x S' => ∀ cls od M' H', Nxt g M H S' M' H' → ExR g M' cls od x → W cls od σ H'
def tE (W : WX) (f : Ev) : TE := fun σ H Q => ∃ (e : Env) (S : Sto) (M : Mt), Sim g M H S ∧ EnvR g M σ e ∧ (f e S).on (kE g M H Q) (kX g W M H σ)
def tT (W : WX) (f : Tv) : TT := fun σ H Q => ∃ (e : Env) (S : Sto) (M : Mt), Sim g M H S ∧ EnvR g M σ e ∧ (f e S).on (kT g M H Q) (kX g W M H σ)
def tA (W : WX) (f : Av) : TA := fun σ H Q => ∃ (e : Env) (S : Sto) (M : Mt), Sim g M H S ∧ EnvR g M σ e ∧ (f e S).on (kA g M H Q) (kX g W M H σ)
/-- a statement's end -/
def kS (W : WX) (M : Mt) (H : Hp) (D : Ends) : Out → Prop
  | .nx e S => ∀ σ M' H', Nxt g M H S M' H' → EnvR g M' σ e → D.nx σ H'
  | .rt d S => ∀ v M' H', Nxt g M H S M' H' → Rep g M' v d → D.rt v H'
  | .bk e S => ∀ σ M' H', Nxt g M H S M' H' → EnvR g M' σ e → D.bk σ H'
  | .ct e S => ∀ σ M' H', Nxt g M H S M' H' → EnvR g M' σ e → D.ct σ H'
  | .exc x e S => ∀ cls od σ M' H', Nxt g M H S M' H' → ExR g M' cls od x → EnvR g M' σ e → W cls od σ H'
  | .bad => False
def tS (W : WX) (f : Sv) : TS := fun D σ H => ∃ (e : Env) (S : Sto) (M : Mt), Sim g M H S ∧ EnvR g M σ e ∧ kS g W M H D (f e S)
end
section
variable {g : G} {W : WX} {M M1 : Mt} {H H1 : Hp} {S S1 : Sto} {σ : L2.St} {e : Env}
theorem kG_nx {α β : Type} {Rl : Mt → α → β → Prop} {Q : α → Hp → Prop} {b : β} (n : Nxt g M H S1 M1 H1) (h : kG g Rl M H Q b S) : kG g Rl M1 H1 Q b S := fun a M' H' n' r => h a M' H' (n.trans n') r
theorem kX_nx {x : Exc} (n : Nxt g M H S1 M1 H1) (h : kX g W M H σ x S) : kX g W M1 H1 σ x S := fun c o M' H' n' r => h c o M' H' (n.trans n') r
theorem kS_nx {D : Ends} {o : Out} (n : Nxt g M H S1 M1 H1) (h : kS g W M H D o) : kS g W M1 H1 D o := by
  cases o with
  | nx e S => exact fun σ M' H' n' r => h σ M' H' (n.trans n') r
  | rt d S => exact fun σ M' H' n' r => h σ M' H' (n.trans n') r
  | bk e S => exact fun σ M' H' n' r => h σ M' H' (n.trans n') r
  | ct e S => exact fun σ M' H' n' r => h σ M' H' (n.trans n') r
  | exc x e S => exact fun c o σ M' H' n' r q => h c o σ M' H' (n.trans n') r q
  | bad => exact h
/-- one part, then the rest -/
theorem seqG {α β α' β' : Type} {Rl : Mt → α → β → Prop} {Rl' : Mt → α' → β' → Prop} {r : Ret β} {k : β → Sto → Ret β'} {Q : α' → Hp → Prop} {R : α → Hp → Prop}
    (h : (r.bind k).on (kG g Rl' M H Q) (kX g W M H σ)) (hk : ∀ a b S1 M1 H1, Nxt g M H S1 M1 H1 → Rl M1 a b → (k b S1).on (kG g Rl' M1 H1 Q) (kX g W M1 H1 σ) → R a H1) :
    r.on (kG g Rl M H R) (kX g W M H σ) :=
  Ret.on_mono (Ret.on_bind h) (fun b S1 q a M1 H1 n rl => hk a b S1 M1 H1 n rl (Ret.on_mono q (fun _ _ z => kG_nx n z) fun _ _ z => kX_nx n z)) fun _ _ z => z
/-- one part of a statement, then the rest -/
theorem seqS {α β : Type} {Rl : Mt → α → β → Prop} {r : Ret β} {k : β → Sto → Out} {D : Ends} {R : α → Hp → Prop} (er : EnvR g M σ e)
    (h : kS g W M H D (r.into e k)) (hk : ∀ a b S1 M1 H1, Nxt g M H S1 M1 H1 → Rl M1 a b → EnvR g M1 σ e → kS g W M1 H1 D (k b S1) → R a H1) :
    r.on (kG g Rl M H R) (kX g W M H σ) := by
  cases r with
  | ok b S1 => exact fun a M1 H1 n rl => hk a b S1 M1 H1 n rl (er.le n.le) (kS_nx n h)
  | exc x S1 => exact fun c o M1 H1 n rx => h c o σ M1 H1 n rx (er.le n.le)
  | bad => exact h
end

/-! ### weakening -/
section
variable {X : Cx}
theorem _root_.L2.PE.weak {e : Expr} {t t' : TE} (h : PE X e t) (w : ∀ σ H Q, t' σ H Q → t σ H Q) : PE X e t' := ⟨fun pins s σ H Q I q => h.run pins s σ H Q I (w σ H Q q)⟩
theorem _root_.L2.PT.weak {e : Expr} {t t' : TT} (h : PT X e t) (w : ∀ σ H Q, t' σ H Q → t σ H Q) : PT X e t' := ⟨fun pins s σ H Q I q => h.run pins s σ H Q I (w σ H Q q)⟩
theorem _root_.L2.PW.weak {e : Expr} {t t' : TT} (h : PW X e t) (w : ∀ σ H Q, t' σ H Q → t σ H Q) : PW X e t' := ⟨fun wh pins s σ H Q I q => h.run wh pins s σ H Q I (w σ H Q q)⟩
theorem _root_.L2.PA.weak {e : List Expr} {t t' : TA} (h : PA X e t) (w : ∀ σ H Q, t' σ H Q → t σ H Q) : PA X e t' := ⟨fun p pins s σ H Q I q => h.run p pins s σ H Q I (w σ H Q q)⟩
theorem _root_.L2.PS.weak {e : Stmt} {t t' : TS} (h : PS X e t) (w : ∀ D σ H, t' D σ H → t D σ H) : PS X e t' := ⟨fun pins s σ H D I q => h.run pins s σ H D I (w D σ H q)⟩
theorem _root_.L2.PSs.weak {e : List Stmt} {t t' : TS} (h : PSs X e t) (w : ∀ D σ H, t' D σ H → t D σ H) : PSs X e t' := ⟨fun pins s σ H D I q => h.run pins s σ H D I (w D σ H q)⟩
theorem _root_.L2.OpR.weak {f : Value → Value → Sem Value} {r r' : R2} (h : OpR X f r) (w : ∀ x y H Q, r' x y H Q → r x y H Q) : OpR X f r' := fun pins s σ H x y v u Q I rx ry q => h pins s σ H x y v u Q I rx ry (w x y H Q q)
theorem _root_.L2.CallR.weak {f : Value} {r r' : List V → Hp → VK → Prop} (h : CallR X f r) (w : ∀ xs H Q, r' xs H Q → r xs H Q) : CallR X f r' := fun pins s σ H xs us Q I rx q => h pins s σ H xs us Q I rx (w xs H Q q)
end

/-! ### operations by values -/
abbrev F2 := D → D → Sto → Option D
abbrev FL := List D → Sto → Option D
def Ret.of {α : Type} (o : Option α) (S : Sto) : Ret α := match o with
  | some a => .ok a S
  | none => .bad
theorem Ret.of_on {α : Type} {o : Option α} {S : Sto} {K : α → Sto → Prop} {E : Exc → Sto → Prop} (h : (Ret.of o S).on K E) : ∃ a, o = some a ∧ K a S := by
  cases o with
  | some a => exact ⟨a, rfl, h⟩
  | none => exact (show False from h).elim
section
variable (g : G)
/-- what an operation on values gives: nothing is raised, the store stays -/
def rF2 (f : F2) : R2 := fun x y H Q => ∃ (a b : D) (S : Sto) (M : Mt) (d : D), Sim g M H S ∧ Rep g M x a ∧ Rep g M y b ∧ f a b S = some d ∧ kE g M H Q d S
def rFL (f : FL) : List V → Hp → VK → Prop := fun xs H Q => ∃ (ds : List D) (S : Sto) (M : Mt) (d : D), Sim g M H S ∧ Reps g M xs ds ∧ f ds S = some d ∧ kE g M H Q d S
end
end DL

namespace DL
open PySem PySem.Spec PyProof.Rows L2

section
variable {X : Cx} {g : G} {W : WX} {a b c : Expr} {fa fb fc : Ev} {pos : Pos}
/-- the entry of every rule's proof -/
theorem kG_here {α β : Type} {Rl : Mt → α → β → Prop} {M : Mt} {H : Hp} {S : Sto} {Q : α → Hp → Prop} {x : α} {y : β} (s : Sim g M H S) (r : Rl M x y) (h : kG g Rl M H Q y S) : Q x H := h x M H (.refl s) r

/-! ### names, constants -/
def eVar (i : Nat) : Ev := fun e S => match e[i]? with
  | some (some d) => .ok d S
  | _ => .bad
def eC (d : D) : Ev := fun _ S => .ok d S
theorem d_var (i : Nat) {x : Str} (h : PE X (.Name x pos) (tVar i)) : PE X (.Name x pos) (tE g W (eVar i)) := by
  refine h.weak fun σ H Q ⟨e, S, M, s, er, q⟩ => ?_
  unfold eVar at q
  cases h1 : e[i]? with
  | none => rw [h1] at q; exact q.elim
  | some o =>
    cases o with
    | none => rw [h1] at q; exact q.elim
    | some d =>
      rw [h1] at q
      obtain ⟨v, e1, r⟩ := er.2 i d h1
      exact ⟨v, e1, kG_here s r q⟩
theorem d_C {a : Expr} {v : V} {d : D} (h : PE X a (tC v)) (r : ∀ M, Rep g M v d) : PE X a (tE g W (eC d)) :=
  h.weak fun σ H Q ⟨e, S, M, s, er, q⟩ => kG_here s (r M) q
theorem d_int {i : Int} {j : Nat} : PE X (.Constant (.int i) j pos) (tE g W (eC (.int i))) := d_C pe_int fun _ => .int i
theorem d_bl {i : Bool} {j : Nat} : PE X (.Constant (.bool i) j pos) (tE g W (eC (.bl i))) := d_C pe_bl fun _ => .bl i
theorem d_non {j : Nat} : PE X (.Constant .none j pos) (tE g W (eC .non)) := d_C pe_non fun _ => .non
theorem d_str {x : Str} {j : Nat} : PE X (.Constant (.str x) j pos) (tE g W (eC (.str x))) := d_C pe_str fun _ => .str x

/-! ### argument lists, displays -/
def aNil : Av := fun _ S => .ok [] S
def aCons (fa : Ev) (fr : Av) : Av := fun e S => (fa e S).bind fun d S => (fr e S).bind fun ds S => .ok (d :: ds) S
theorem d_nil : PA X [] (tA g W aNil) := pa_nil.weak fun σ H Q ⟨e, S, M, s, er, q⟩ => kG_here s .nil q
theorem d_cons {es : List Expr} {fr : Av} (ha : PE X a (tE g W fa)) (hr : PA X es (tA g W fr)) (hs : starEach (a :: es) X.env = (false, eval a X.env) :: starEach es X.env := by rfl) : PA X (a :: es) (tA g W (aCons fa fr)) := by
  refine (pa_cons ha hr hs).weak fun σ H Q ⟨e, S, M, s, er, q⟩ => ⟨e, S, M, s, er, seqG q fun x d S1 M1 H1 n1 r1 q1 => ?_⟩
  refine ⟨e, S1, M1, n1.sim, er.le n1.le, seqG q1 fun xs ds S2 M2 H2 n2 r2 q2 => ?_⟩
  exact kG_here n2.sim (.cons (r1.le n2.le) r2) q2
def LN : Nat := 16777216
theorem line_LN : LN ≤ sizeLine := by rw [sizeLine_eq]; exact Nat.le_refl _
def eTup (fr : Av) : Ev := fun e S => (fr e S).bind fun ds S => if ds.length ≤ LN then .ok (.tup ds) S else .bad
def eLst (fr : Av) : Ev := fun e S => (fr e S).bind fun ds S => if ds.length ≤ LN then .ok (.lst ds) S else .bad
theorem Reps.len {M : Mt} : ∀ {vs : List V} {ds : List D}, Reps g M vs ds → vs.length = ds.length
  | _, _, .nil => rfl
  | _, _, .cons _ t => congrArg Nat.succ (Reps.len t)
theorem ifok {α : Type} {p : Prop} [Decidable p] {r : Ret α} {K : α → Sto → Prop} {E : Exc → Sto → Prop} (h : (if p then r else .bad).on K E) : p ∧ r.on K E := by
  by_cases hp : p
  · rw [if_pos hp] at h; exact ⟨hp, h⟩
  · rw [if_neg hp] at h; exact (show False from h).elim
theorem rep_tup {M : Mt} {H : Hp} {S : Sto} {p : Addr} {vs : List V} {ds : List D} (s : Sim g M H S) (np : H p = none) (r : Reps g M vs ds) : Rep g ⟨upd M.I p (.tup vs), M.m⟩ (.ref p) (.tup ds) :=
  .tup (.inl (.inl upd_same)) (r.le (Nxt.laid s np).le)
theorem rep_lst {M : Mt} {H : Hp} {S : Sto} {p : Addr} {vs : List V} {ds : List D} (s : Sim g M H S) (np : H p = none) (r : Reps g M vs ds) : Rep g ⟨upd M.I p (.lst vs), M.m⟩ (.ref p) (.lst ds) :=
  .lst upd_same (r.le (Nxt.laid s np).le)
theorem d_tup {es : List Expr} {fr : Av} {k : Nat} (h : PA X es (tA g W fr)) : PE X (.Tuple es k pos) (tE g W (eTup fr)) := by
  refine (pe_tup h).weak fun σ H Q ⟨e, S, M, s, er, q⟩ => ⟨e, S, M, s, er, seqG q fun vs ds S1 M1 H1 n1 r1 q1 => ?_⟩
  obtain ⟨hl, q1⟩ := ifok q1
  refine ⟨by rw [r1.len]; exact Nat.le_trans hl line_LN, fun p np => ?_⟩
  exact q1 _ _ _ (Nxt.laid n1.sim np) (rep_tup n1.sim np r1)
theorem d_lst {es : List Expr} {fr : Av} (h : PA X es (tA g W fr)) : PE X (.List es pos) (tE g W (eLst fr)) := by
  refine (pe_lst h).weak fun σ H Q ⟨e, S, M, s, er, q⟩ => ⟨e, S, M, s, er, seqG q fun vs ds S1 M1 H1 n1 r1 q1 => ?_⟩
  obtain ⟨hl, q1⟩ := ifok q1
  refine ⟨by rw [r1.len]; exact Nat.le_trans hl line_LN, fun p np => ?_⟩
  exact q1 _ _ _ (Nxt.laid n1.sim np) (rep_lst n1.sim np r1)
/-- a list that will be changed: at the next place -/
def eLstM (fr : Av) : Ev := fun e S => (fr e S).bind fun ds S => if ds.length ≤ LN then .ok (.loc S.length) (S ++ [.lst ds]) else .bad
theorem d_lstM {es : List Expr} {fr : Av} (h : PA X es (tA g W fr)) : PE X (.List es pos) (tE g W (eLstM fr)) := by
  refine (pe_lst h).weak fun σ H Q ⟨e, S, M, s, er, q⟩ => ⟨e, S, M, s, er, seqG q fun vs ds S1 M1 H1 n1 r1 q1 => ?_⟩
  obtain ⟨hl, q1⟩ := ifok q1
  refine ⟨by rw [r1.len]; exact Nat.le_trans hl line_LN, fun p np => ?_⟩
  refine q1 _ _ _ (Nxt.grow n1.sim np fun M' le => .lst upd_same (r1.le le)) (.loc ?_)
  show (M1.m ++ [p])[S1.length]? = some p
  rw [List.getElem?_append_right (by rw [n1.sim.len]; exact Nat.le_refl _), n1.sim.len]
  simp

/-! ### operators, comparisons -/
def eOp (fo : F2) (fa fb : Ev) : Ev := fun e S => (fa e S).bind fun x S => (fb e S).bind fun y S => Ret.of (fo x y S) S
theorem w_op {fo : F2} {σ : L2.St} {H : Hp} {Q : VK} (h : tE g W (eOp fo fa fb) σ H Q) : tOp (rF2 g fo) (tE g W fa) (tE g W fb) σ H Q := by
  obtain ⟨e, S, M, s, er, q⟩ := h
  refine ⟨e, S, M, s, er, seqG q fun x dx S1 M1 H1 n1 r1 q1 => ?_⟩
  refine ⟨e, S1, M1, n1.sim, er.le n1.le, seqG q1 fun y dy S2 M2 H2 n2 r2 q2 => ?_⟩
  obtain ⟨d, hd, q2⟩ := Ret.of_on q2
  exact ⟨dx, dy, S2, M2, d, n2.sim, r1.le n2.le, r2, hd, q2⟩
theorem d_op {op : Operator} {fo : F2} (ho : OpR X (binaryOp op) (rF2 g fo)) (ha : PE X a (tE g W fa)) (hb : PE X b (tE g W fb)) : PE X (.BinOp a op b pos) (tE g W (eOp fo fa fb)) :=
  (pe_op ho ha hb).weak fun _ _ _ h => w_op h
theorem d_cmp {op : CmpOp} {fo : F2} (ho : OpR X (compareOp op) (rF2 g fo)) (ha : PE X a (tE g W fa)) (hb : PE X b (tE g W fb)) (hm : behindInMarks op b = false) : PE X (.Compare a [op] [b] pos) (tE g W (eOp fo fa fb)) :=
  (pe_cmpR ho ha hb hm).weak fun _ _ _ h => w_op h
/-- a value as a test -/
def asB : D → Option Bool
  | .bl b => some b
  | _ => none
def tV (fa : Ev) : Tv := fun e S => (fa e S).bind fun d S => Ret.of (asB d) S
theorem asB_some {d : D} {b : Bool} (h : asB d = some b) : d = .bl b := by
  cases d <;> first | (cases h; rfl) | cases h
theorem w_val {σ : L2.St} {H : Hp} {Q : Bool → Hp → Prop} (h : tT g W (tV fa) σ H Q) : tE g W fa σ H fun x H1 => ∃ c, x = .bl c ∧ Q c H1 := by
  obtain ⟨e, S, M, s, er, q⟩ := h
  refine ⟨e, S, M, s, er, seqG q fun x dx S1 M1 H1 n1 r1 q1 => ?_⟩
  obtain ⟨b, hb, q1⟩ := Ret.of_on q1
  rw [asB_some hb] at r1
  cases r1
  exact ⟨b, rfl, kG_here n1.sim (Rl := fun _ a b => a = b) rfl q1⟩
theorem t_val (ha : PE X a (tE g W fa)) (he : ∀ whole, isTrue a X.env whole = (do let v ← whole; standAt a.pos; holding [v] (truthy v)) := by intro _; rfl) : PT X a (tT g W (tV fa)) :=
  (pt_val ha he).weak fun _ _ _ h => w_val h
theorem t_cmp {op : CmpOp} {fo : F2} (ho : OpR X (compareOp op) (rF2 g fo)) (ha : PE X a (tE g W fa)) (hb : PE X b (tE g W fb)) (hm : behindInMarks op b = false) : PT X (.Compare a [op] [b] pos) (tT g W (tV (eOp fo fa fb))) := by
  refine (pt_cmpR ho ha hb hm).weak fun σ H Q h => ?_
  obtain ⟨e, S, M, s, er, q⟩ := w_val h
  exact w_op ⟨e, S, M, s, er, q⟩
def eChain (fo fo' : F2) (fa fb fc : Ev) : Ev := fun e S => (fa e S).bind fun x S => (fb e S).bind fun y S => (Ret.of ((fo x y S).bind asB) S).bind fun k S =>
  if k = true then (fc e S).bind fun z S => Ret.of (fo' y z S) S else .ok (.bl false) S
theorem obind {α β : Type} {o : Option α} {k : α → Option β} {b : β} (h : o.bind k = some b) : ∃ a, o = some a ∧ k a = some b := by
  cases o with
  | none => cases h
  | some a => exact ⟨a, rfl, h⟩
theorem w_chain {fo fo' : F2} {σ : L2.St} {H : Hp} {Q : VK} (h : tE g W (eChain fo fo' fa fb fc) σ H Q) : tChain (rF2 g fo) (rF2 g fo') (tE g W fa) (tE g W fb) (tE g W fc) σ H Q := by
  obtain ⟨e, S, M, s, er, q⟩ := h
  refine ⟨e, S, M, s, er, seqG q fun x dx S1 M1 H1 n1 r1 q1 => ?_⟩
  refine ⟨e, S1, M1, n1.sim, er.le n1.le, seqG q1 fun y dy S2 M2 H2 n2 r2 q2 => ?_⟩
  obtain ⟨k, hk, q3⟩ := Ret.of_on (Ret.on_bind q2)
  obtain ⟨d, hd, hb⟩ := obind hk
  refine ⟨dx, dy, S2, M2, d, n2.sim, r1.le n2.le, r2, hd, fun v M3 H3 n3 r3 => ?_⟩
  rw [asB_some hb] at r3
  cases r3
  refine ⟨k, rfl, ?_⟩
  cases k with
  | false =>
    rw [if_neg Bool.false_ne_true] at q3 ⊢
    exact q3 _ _ _ n3 (.bl false)
  | true =>
    rw [if_pos rfl] at q3 ⊢
    have q4 := Ret.on_mono q3 (fun _ _ z => kG_nx n3 z) fun _ _ z => kX_nx n3 z
    refine ⟨e, S2, M3, n3.sim, (er.le n1.le).le (n2.le.trans n3.le), seqG q4 fun z dz S4 M4 H4 n4 r4 q5 => ?_⟩
    obtain ⟨d, hd, q5⟩ := Ret.of_on q5
    exact ⟨dy, dz, S4, M4, d, n4.sim, (r2.le n3.le).le n4.le, r4, hd, q5⟩
theorem d_chain {op op' : CmpOp} {fo fo' : F2} (ho : OpR X (compareOp op) (rF2 g fo)) (ho' : OpR X (compareOp op') (rF2 g fo')) (ha : PE X a (tE g W fa)) (hb : PE X b (tE g W fb)) (hc : PE X c (tE g W fc))
    (hm : lastMarks [op, op'] [b, c] = false := by with_unfolding_all rfl) : PE X (.Compare a [op, op'] [b, c] pos) (tE g W (eChain fo fo' fa fb fc)) :=
  (pe_chain ho ho' ha hb hc hm).weak fun _ _ _ h => w_chain h
theorem t_chain {op op' : CmpOp} {fo fo' : F2} (ho : OpR X (compareOp op) (rF2 g fo)) (ho' : OpR X (compareOp op') (rF2 g fo')) (ha : PE X a (tE g W fa)) (hb : PE X b (tE g W fb)) (hc : PE X c (tE g W fc))
    (hm : lastMarks [op, op'] [b, c] = false := by with_unfolding_all rfl) : PT X (.Compare a [op, op'] [b, c] pos) (tT g W (tV (eChain fo fo' fa fb fc))) := by
  refine (pt_chain ho ho' ha hb hc hm).weak fun σ H Q h => ?_
  obtain ⟨e, S, M, s, er, q⟩ := w_val h
  exact w_chain ⟨e, S, M, s, er, q⟩

/-! ### and, or, not, if-else -/
def tAn (t u : Tv) : Tv := fun e S => (t e S).bind fun c S => if c = true then u e S else .ok false S
def tOr' (t u : Tv) : Tv := fun e S => (t e S).bind fun c S => if c = true then .ok true S else u e S
def tNo (t : Tv) : Tv := fun e S => (t e S).bind fun c S => .ok (!c) S
variable {ft fu : Tv} {rest : List Expr}
theorem w_and1 {pos : Pos} (ha : PT X a (tT g W ft)) : PW X (.BoolOp .And [a] pos) (tT g W ft) := pw_and1 ha
theorem w_or1 {pos : Pos} (ha : PT X a (tT g W ft)) : PW X (.BoolOp .Or [a] pos) (tT g W ft) := pw_or1 ha
theorem w_and (ha : PT X a (tT g W ft)) (hb : PW X (.BoolOp .And (b :: rest) pos) (tT g W fu)) : PW X (.BoolOp .And (a :: b :: rest) pos) (tT g W (tAn ft fu)) := by
  refine (pw_and ha hb).weak fun σ H Q ⟨e, S, M, s, er, q⟩ => ⟨e, S, M, s, er, seqG q fun x c S1 M1 H1 n1 r1 q1 => ?_⟩
  subst r1
  cases x with
  | true => exact ⟨e, S1, M1, n1.sim, er.le n1.le, q1⟩
  | false => exact kG_here n1.sim (Rl := fun _ a b => a = b) rfl q1
theorem w_or (ha : PT X a (tT g W ft)) (hb : PW X (.BoolOp .Or (b :: rest) pos) (tT g W fu)) : PW X (.BoolOp .Or (a :: b :: rest) pos) (tT g W (tOr' ft fu)) := by
  refine (pw_or ha hb).weak fun σ H Q ⟨e, S, M, s, er, q⟩ => ⟨e, S, M, s, er, seqG q fun x c S1 M1 H1 n1 r1 q1 => ?_⟩
  subst r1
  cases x with
  | true => exact kG_here n1.sim (Rl := fun _ a b => a = b) rfl q1
  | false => exact ⟨e, S1, M1, n1.sim, er.le n1.le, q1⟩
theorem t_not (ha : PT X a (tT g W ft)) : PT X (.UnaryOp .Not a pos) (tT g W (tNo ft)) := by
  refine (pt_not ha).weak fun σ H Q ⟨e, S, M, s, er, q⟩ => ⟨e, S, M, s, er, seqG q fun x c S1 M1 H1 n1 r1 q1 => ?_⟩
  subst r1
  exact kG_here n1.sim (Rl := fun _ a b => a = b) rfl q1
def eAnd (fa fb : Ev) : Ev := fun e S => (fa e S).bind fun x S => (Ret.of (asB x) S).bind fun c S => if c = true then fb e S else .ok (.bl false) S
def eOr (fa fb : Ev) : Ev := fun e S => (fa e S).bind fun x S => (Ret.of (asB x) S).bind fun c S => if c = true then .ok (.bl true) S else fb e S
def eNot (fa : Ev) : Ev := fun e S => (fa e S).bind fun x S => (Ret.of (asB x) S).bind fun c S => .ok (.bl (!c)) S
theorem d_one {op : BoolOp} (ha : PE X a (tE g W fa)) : PE X (.BoolOp op [a] pos) (tE g W fa) := pe_one ha
theorem d_and (ha : PE X a (tE g W fa)) (hb : PE X (.BoolOp .And (b :: rest) pos) (tE g W fb)) : PE X (.BoolOp .And (a :: b :: rest) pos) (tE g W (eAnd fa fb)) := by
  refine (pe_and ha hb).weak fun σ H Q ⟨e, S, M, s, er, q⟩ => ⟨e, S, M, s, er, seqG q fun x d S1 M1 H1 n1 r1 q1 => ?_⟩
  obtain ⟨k, hk, q2⟩ := Ret.of_on (Ret.on_bind q1)
  rw [asB_some hk] at r1
  cases r1
  refine ⟨k, rfl, ?_⟩
  cases k with
  | true => exact ⟨e, S1, M1, n1.sim, er.le n1.le, q2⟩
  | false => exact kG_here n1.sim (Rep.bl false) q2
theorem d_or (ha : PE X a (tE g W fa)) (hb : PE X (.BoolOp .Or (b :: rest) pos) (tE g W fb)) : PE X (.BoolOp .Or (a :: b :: rest) pos) (tE g W (eOr fa fb)) := by
  refine (pe_or ha hb).weak fun σ H Q ⟨e, S, M, s, er, q⟩ => ⟨e, S, M, s, er, seqG q fun x d S1 M1 H1 n1 r1 q1 => ?_⟩
  obtain ⟨k, hk, q2⟩ := Ret.of_on (Ret.on_bind q1)
  rw [asB_some hk] at r1
  cases r1
  refine ⟨k, rfl, ?_⟩
  cases k with
  | true => exact kG_here n1.sim (Rep.bl true) q2
  | false => exact ⟨e, S1, M1, n1.sim, er.le n1.le, q2⟩
theorem d_not (ha : PE X a (tE g W fa)) : PE X (.UnaryOp .Not a pos) (tE g W (eNot fa)) := by
  refine (pe_not ha).weak fun σ H Q ⟨e, S, M, s, er, q⟩ => ⟨e, S, M, s, er, seqG q fun x d S1 M1 H1 n1 r1 q1 => ?_⟩
  obtain ⟨k, hk, q2⟩ := Ret.of_on (Ret.on_bind q1)
  rw [asB_some hk] at r1
  cases r1
  exact ⟨k, rfl, kG_here n1.sim (Rep.bl _) q2⟩
def eIf (t : Tv) (fa fb : Ev) : Ev := fun e S => (t e S).bind fun c S => if c = true then fa e S else fb e S
theorem d_if (hc : PT X c (tT g W ft)) (ha : PE X a (tE g W fa)) (hb : PE X b (tE g W fb)) : PE X (.IfExp c a b pos) (tE g W (eIf ft fa fb)) := by
  refine (pe_ifExp hc ha hb).weak fun σ H Q ⟨e, S, M, s, er, q⟩ => ⟨e, S, M, s, er, seqG q fun x d S1 M1 H1 n1 r1 q1 => ?_⟩
  subst r1
  cases x with
  | true => exact ⟨e, S1, M1, n1.sim, er.le n1.le, q1⟩
  | false => exact ⟨e, S1, M1, n1.sim, er.le n1.le, q1⟩
end
end DL

namespace DL
open PySem PySem.Spec PyProof.Rows L2

/-! ### a value as it is read now: what stands at a place, looked up -/
def der (S : Sto) : D → D
  | .loc l => match S[l]? with
    | some .dead => .loc l
    | some mo => mo.val
    | none => .loc l
  | d => d
section
variable {g : G} {M : Mt} {H : Hp} {S : Sto}
/-- all that is tracked, as the part that stays: for readings -/
abbrev Mt.now (M : Mt) (H : Hp) : Mt := ⟨H, M.m⟩
theorem Sim.now (s : Sim g M H S) : M.Le (M.now H) := ⟨s.im, [], by simp⟩
theorem rep_der (s : Sim g M H S) {v : V} {d : D} (r : Rep g M v d) : Rep g (M.now H) v (der S d) := by
  cases r with
  | @loc l a hl =>
    show Rep g (M.now H) (.ref a) (der S (.loc l))
    unfold der
    dsimp only
    cases e : S[l]? with
    | none => exact .loc hl
    | some mo =>
      cases mo with
      | dead => exact .loc hl
      | lst ds =>
        obtain ⟨_, q⟩ := s.lv l a _ hl e rfl
        cases q with
        | lst h r => exact .lst h (r.le s.now)
      | dct ds =>
        obtain ⟨_, q⟩ := s.lv l a _ hl e rfl
        cases q with
        | dK h r => exact .dK h (r.le s.now)
        | dT h r => exact .dT h (r.le s.now)
      | ins c ds =>
        obtain ⟨_, q⟩ := s.lv l a _ hl e rfl
        cases q with
        | ins h r => exact .ins h (r.le s.now)
  | non => exact .non
  | bl b => exact .bl b
  | int i => exact .int i
  | str x => exact .str x
  | tup a b => exact .tup (sqt_le s.now.I a) (b.le s.now)
  | lst a b => exact .lst (s.now.I _ _ a) (b.le s.now)
  | frz a b => exact .frz (sql_le s.now.I a) (b.le s.now)
  | dK a b => exact .dK (s.now.I _ _ a) (b.le s.now)
  | dT a b => exact .dT (s.now.I _ _ a) (b.le s.now)
  | ins a b => exact .ins (s.now.I _ _ a) (b.le s.now)
  | exc a b c => exact .exc (s.now.I _ _ a) (s.now.I _ _ b) (c.le s.now)

/-! ### as the library's data -/
mutual
def pdOf : D → PyData
  | .non => .none
  | .bl b => .bool b
  | .int i => .int i
  | .str x => .str x
  | .tup xs => .tuple (pdsOf xs)
  | .lst xs => .list (pdsOf xs)
  | .frz xs => .list (pdsOf xs)
  | .dct _ => .dict []
  | .ins _ _ => .dict []
  | .exc _ _ => .dict []
  | .loc _ => .dict []
def pdsOf : List D → List PyData
  | [] => []
  | x :: xs => pdOf x :: pdsOf xs
end
theorem plain_dict {kvs : List (PyData × PyData)} : ¬ (PyData.dict kvs).plain = true := by simp [PyData.plain]
section
variable {X : Cx} {pins : List (Addr × Obj)} {σ : L2.St} {s : Shared}
mutual
theorem rep_reads (I : Inv X pins σ H s) (hK : g.K = X.K) (hI : ∀ a o, M.I a = some o → H a = some o) : ∀ (d : D) (v : V) (u : Value), Rep g M v d → (pdOf d).plain = true → RelV v u → ∃ as, Reads s.heap u (pdOf d) as
  | .non, _, _, .non, _, r => by cases r; exact ⟨_, .none⟩
  | .bl _, _, _, .bl b, _, r => by cases r; exact ⟨_, .bool b⟩
  | .int _, _, _, .int i, _, r => by obtain ⟨t, rfl⟩ := r; exact ⟨_, .int i t⟩
  | .str _, _, _, .str x, _, r => by obtain ⟨t, rfl⟩ := r; exact ⟨_, .str x t⟩
  | .tup ds, _, _, .tup a b, p, r => by
    cases r
    have p : PyData.plainAll (pdsOf ds) = true := by simpa [pdOf, PyData.plain] using p
    obtain ⟨its, rv, ⟨o, h1, h2, n, h3⟩, _⟩ := I.tuple (hK ▸ sqt_le hI a)
    obtain ⟨as, rr⟩ := reps_reads I hK hI ds _ its b p rv
    exact ⟨_, .tuple h1 h2 h3 (by simpa using rr)⟩
  | .lst ds, _, _, .lst a b, p, r => by
    cases r
    have p : PyData.plainAll (pdsOf ds) = true := by simpa [pdOf, PyData.plain] using p
    obtain ⟨its, rv, ⟨o, n, h1, h2, _, h3⟩, _⟩ := I.list (SqL.of (hI _ _ a))
    obtain ⟨as, rr⟩ := reps_reads I hK hI ds _ its b p rv
    exact ⟨_, .list h1 h2 h3 (by simpa using rr)⟩
  | .frz ds, _, _, .frz a b, p, r => by
    cases r
    have p : PyData.plainAll (pdsOf ds) = true := by simpa [pdOf, PyData.plain] using p
    obtain ⟨its, rv, ⟨o, n, h1, h2, _, h3⟩, _⟩ := I.list (hK ▸ sql_le hI a)
    obtain ⟨as, rr⟩ := reps_reads I hK hI ds _ its b p rv
    exact ⟨_, .list h1 h2 h3 (by simpa using rr)⟩
  | .dct _, _, _, .dK _ _, p, _ => absurd p plain_dict
  | .dct _, _, _, .dT _ _, p, _ => absurd p plain_dict
  | .ins _ _, _, _, .ins _ _, p, _ => absurd p plain_dict
  | .exc _ _, _, _, .exc _ _ _, p, _ => absurd p plain_dict
  | .loc _, _, _, .loc _, p, _ => absurd p plain_dict
theorem reps_reads (I : Inv X pins σ H s) (hK : g.K = X.K) (hI : ∀ a o, M.I a = some o → H a = some o) : ∀ (ds : List D) (vs : List V) (us : List Value), Reps g M vs ds → PyData.plainAll (pdsOf ds) = true → Vals vs us → ∃ as, ReadsAll s.heap us (pdsOf ds) as
  | [], _, _, .nil, _, r => by cases r; exact ⟨_, .nil⟩
  | d :: ds, _, _, .cons a b, p, r => by
    have p : (pdOf d).plain = true ∧ PyData.plainAll (pdsOf ds) = true := by simpa [pdsOf, PyData.plainAll] using p
    cases r with
    | cons r1 r2 =>
      obtain ⟨as, h1⟩ := rep_reads I hK hI d _ _ a p.1 r1
      obtain ⟨bs, h2⟩ := reps_reads I hK hI ds _ _ b p.2 r2
      exact ⟨_, .cons h1 h2⟩
end
end
end

/-! ### the operations -/
def opAdd : F2 := fun x y S => match der S x, der S y with
  | .int i, .int j => some (.int (i + j))
  | .str i, .str j => if i.length + j.length ≤ LN then some (.str (i ++ j)) else none
  | .tup xs, .tup ys => if xs.length + ys.length ≤ LN then some (.tup (xs ++ ys)) else none
  | .lst xs, .lst ys => if xs.length + ys.length ≤ LN then some (.lst (xs ++ ys)) else none
  | _, _ => none
def opSub : F2 := fun x y _ => match x, y with
  | .int i, .int j => some (.int (i - j))
  | _, _ => none
def mulOk (i j : Int) : Bool := (decide (-(2 ^ 64) < i) && decide (i < 2 ^ 64)) || (decide (-(2 ^ 64) < j) && decide (j < 2 ^ 64))
def opMul : F2 := fun x y _ => match x, y with
  | .int i, .int j => if mulOk i j = true then some (.int (i * j)) else none
  | _, _ => none
def opDiv : F2 := fun x y _ => match x, y with
  | .int i, .int j => if 0 < j ∧ j < 1073741824 then some (.int (i / j)) else none
  | _, _ => none
def opMod : F2 := fun x y _ => match x, y with
  | .int i, .int j => if 0 < j then some (.int (i % j)) else none
  | _, _ => none
def opPow : F2 := fun x y _ => match x, y with
  | .int i, .int j => if (0 ≤ j ∧ j ≤ 1000000) ∧ i.natAbs < 2 ^ 64 then some (.int (i ^ j.toNat)) else none
  | _, _ => none
def opLt : F2 := fun x y _ => match x, y with
  | .int i, .int j => some (.bl (decide (i < j)))
  | _, _ => none
def opLe : F2 := fun x y _ => match x, y with
  | .int i, .int j => some (.bl (decide (i ≤ j)))
  | _, _ => none
def opGt : F2 := fun x y _ => match x, y with
  | .int i, .int j => some (.bl (decide (j < i)))
  | _, _ => none
def opGe : F2 := fun x y _ => match x, y with
  | .int i, .int j => some (.bl (decide (j ≤ i)))
  | _, _ => none
def eqOk (p q : PyData) : Bool := p.plain && q.plain && decide (min p.depth q.depth ≤ 100)
def opEq : F2 := fun x y S => if eqOk (pdOf (der S x)) (pdOf (der S y)) = true then some (.bl (PyData.eqv (pdOf (der S x)) (pdOf (der S y)))) else none
def opNe : F2 := fun x y S => if eqOk (pdOf (der S x)) (pdOf (der S y)) = true then some (.bl (!PyData.eqv (pdOf (der S x)) (pdOf (der S y)))) else none
def isNonD : D → Bool
  | .non => true
  | _ => false
def opIsN : F2 := fun x y _ => match y with
  | .non => some (.bl (isNonD x))
  | _ => none
def opNotN : F2 := fun x y _ => match y with
  | .non => some (.bl (!isNonD x))
  | _ => none
/-- in: a text in a text, data in a list or tuple -/
def inRes (x y : D) : Option Bool := match y with
  | .str j => match x with
    | .str i => some (!(Builtin.Str.occurrences j i 0 j.length 1).isEmpty)
    | _ => none
  | .lst ys => if (PyData.plainAll (pdsOf ys) && (pdOf x).plain && decide (min (PyData.depthAll (pdsOf ys)) (pdOf x).depth ≤ 100)) = true then some ((pdsOf ys).any fun q => PyData.eqv q (pdOf x)) else none
  | .tup ys => if (PyData.plainAll (pdsOf ys) && (pdOf x).plain && decide (min (PyData.depthAll (pdsOf ys)) (pdOf x).depth ≤ 100)) = true then some ((pdsOf ys).any fun q => PyData.eqv q (pdOf x)) else none
  | _ => none
def opIn : F2 := fun x y S => (inRes x (der S y)).map .bl
def opNotIn : F2 := fun x y S => (inRes x (der S y)).map fun b => .bl (!b)
section
variable {X : Cx} {g : G}
theorem ite_some {α : Type} {p : Prop} [Decidable p] {a b : α} (h : (if p then some a else none) = some b) : p ∧ a = b := by
  by_cases hp : p
  · rw [if_pos hp] at h; exact ⟨hp, Option.some.inj h⟩
  · rw [if_neg hp] at h; cases h
theorem der_loc {S : Sto} {l : Nat} {d : D} (h : der S (.loc l) = d) (n : ∀ k, d ≠ .loc k) : ∃ mo, S[l]? = some mo ∧ mo.live = true ∧ mo.val = d := by
  unfold der at h
  dsimp only at h
  cases e : S[l]? with
  | none => rw [e] at h; exact absurd h.symm (n l)
  | some mo =>
    rw [e] at h
    cases mo with
    | dead => exact absurd h.symm (n l)
    | lst ds => exact ⟨_, rfl, rfl, h⟩
    | dct ds => exact ⟨_, rfl, rfl, h⟩
    | ins c ds => exact ⟨_, rfl, rfl, h⟩
theorem Rep.at_loc {M : Mt} {v : V} {l : Nat} (r : Rep g M v (.loc l)) : ∃ a, v = .ref a ∧ M.m[l]? = some a := by
  cases r with
  | loc h => exact ⟨_, rfl, h⟩
theorem Sim.lstL {M : Mt} {H : Hp} {S : Sto} {v : V} {d : D} {ds : List D} (s : Sim g M H S) (r : Rep g M v d) (e : der S d = .lst ds) : ∃ a vs, v = .ref a ∧ H a = some (.lst vs) ∧ Reps g M vs ds := by
  cases d with
  | lst xs =>
    cases r with
    | lst a b => cases e; exact ⟨_, _, rfl, s.im _ _ a, b⟩
  | loc l =>
    obtain ⟨mo, h1, h2, h3⟩ := der_loc e (fun k z => nomatch z)
    obtain ⟨a, rfl, hl⟩ := r.at_loc
    obtain ⟨_, q⟩ := s.lv l a mo hl h1 h2
    cases q with
    | lst h r => cases h3; exact ⟨_, _, rfl, h, r⟩
    | dK h r => cases h3
    | dT h r => cases h3
    | ins h r => cases h3
  | _ => cases e
theorem Sim.tupL {M : Mt} {H : Hp} {S : Sto} {v : V} {d : D} {ds : List D} (s : Sim g M H S) (r : Rep g M v d) (e : der S d = .tup ds) : ∃ a vs, v = .ref a ∧ SqT g.K H a vs ∧ Reps g M vs ds := by
  cases d with
  | tup xs =>
    cases r with
    | tup a b => cases e; exact ⟨_, _, rfl, sqt_le s.im a, b⟩
  | loc l =>
    obtain ⟨mo, h1, h2, h3⟩ := der_loc e (fun k z => nomatch z)
    cases mo <;> cases h3
  | _ => cases e
theorem Sim.strL {M : Mt} {H : Hp} {S : Sto} {v : V} {d : D} {x : Str} (s : Sim g M H S) (r : Rep g M v d) (e : der S d = .str x) : v = .str x := by
  have q := rep_der s r
  rw [e] at q
  cases q
  rfl
theorem Sim.intL {M : Mt} {H : Hp} {S : Sto} {v : V} {d : D} {x : Int} (s : Sim g M H S) (r : Rep g M v d) (e : der S d = .int x) : v = .int x := by
  have q := rep_der s r
  rw [e] at q
  cases q
  rfl
/-- items that are read stay what they are: from now back to the part that stays -/
theorem Reps.app {M : Mt} : ∀ {vs ws : List V} {ds es : List D}, Reps g M vs ds → Reps g M ws es → Reps g M (vs ++ ws) (ds ++ es)
  | _, _, _, _, .nil, h => h
  | _, _, _, _, .cons a b, h => .cons a (b.app h)
theorem Reps.nil_iff {M : Mt} {vs : List V} {ds : List D} (r : Reps g M vs ds) : vs = [] ↔ ds = [] := by
  cases r <;> simp
theorem o_add (hK : g.K = X.K) : OpR X (binaryOp .Add) (rF2 g opAdd) := by
  refine (op_add.or (op_add_str.or (op_catA.or op_cat))).weak fun x y H Q ⟨a, b, S, M, d, s, ra, rb, hf, q⟩ => ?_
  unfold opAdd at hf
  split at hf
  · rename_i i j e1 e2
    cases hf
    exact .inl ⟨i, j, s.intL ra e1, s.intL rb e2, kG_here s (Rep.int _) q⟩
  · rename_i i j e1 e2
    obtain ⟨hl, rfl⟩ := ite_some hf
    exact .inr (.inl ⟨i, j, s.strL ra e1, s.strL rb e2, Nat.le_trans hl line_LN, kG_here s (Rep.str _) q⟩)
  · rename_i xs ys e1 e2
    obtain ⟨hl, rfl⟩ := ite_some hf
    obtain ⟨p, vs, rfl, h1, r1⟩ := s.tupL ra e1
    obtain ⟨p', ws, rfl, h2, r2⟩ := s.tupL rb e2
    refine .inr (.inr (.inl ⟨p, p', vs, ws, rfl, rfl, hK ▸ h1, hK ▸ h2, by rw [r1.len, r2.len]; exact Nat.le_trans hl line_LN, fun e => ?_, fun _ e => ?_, fun _ _ c nc => ?_⟩))
    · rw [r1.nil_iff.mp e, List.nil_append] at q
      exact kG_here s (show Rep g M (.ref p') (.tup ys) from by
        have z := rb
        cases b with
        | tup zs => cases e2; exact z
        | loc l => obtain ⟨mo, h1, h2, h3⟩ := der_loc e2 (fun k z => nomatch z); cases mo <;> cases h3
        | _ => cases e2) q
    · rw [r2.nil_iff.mp e, List.append_nil] at q
      exact kG_here s (show Rep g M (.ref p) (.tup xs) from by
        have z := ra
        cases a with
        | tup zs => cases e1; exact z
        | loc l => obtain ⟨mo, h1, h2, h3⟩ := der_loc e1 (fun k z => nomatch z); cases mo <;> cases h3
        | _ => cases e1) q
    · exact q _ _ _ (Nxt.laid s nc) (rep_tup s nc (r1.app r2))
  · rename_i xs ys e1 e2
    obtain ⟨hl, rfl⟩ := ite_some hf
    obtain ⟨p, vs, rfl, h1, r1⟩ := s.lstL ra e1
    obtain ⟨p', ws, rfl, h2, r2⟩ := s.lstL rb e2
    exact .inr (.inr (.inr ⟨p, p', vs, ws, rfl, rfl, h1, h2, by rw [r1.len, r2.len]; exact Nat.le_trans hl line_LN, fun c nc => q _ _ _ (Nxt.laid s nc) (rep_lst s nc (r1.app r2))⟩))
  · cases hf
theorem rep_int {M : Mt} {v : V} {i : Int} (r : Rep g M v (.int i)) : v = .int i := by cases r; rfl
theorem rep_str {M : Mt} {v : V} {i : Str} (r : Rep g M v (.str i)) : v = .str i := by cases r; rfl
theorem o_sub : OpR X (binaryOp .Sub) (rF2 g opSub) := by
  refine op_sub.weak fun x y H Q ⟨a, b, S, M, d, s, ra, rb, hf, q⟩ => ?_
  unfold opSub at hf
  split at hf
  · cases hf; exact ⟨_, _, rep_int ra, rep_int rb, kG_here s (Rep.int _) q⟩
  · cases hf
theorem o_mul : OpR X (binaryOp .Mult) (rF2 g opMul) := by
  refine op_mul.weak fun x y H Q ⟨a, b, S, M, d, s, ra, rb, hf, q⟩ => ?_
  unfold opMul at hf
  split at hf
  · obtain ⟨hm, rfl⟩ := ite_some hf
    refine ⟨_, _, rep_int ra, rep_int rb, ?_, kG_here s (Rep.int _) q⟩
    simp only [mulOk, Bool.or_eq_true, Bool.and_eq_true, decide_eq_true_eq] at hm
    exact hm
  · cases hf
theorem o_div : OpR X (binaryOp .FloorDiv) (rF2 g opDiv) := by
  refine op_fdiv.weak fun x y H Q ⟨a, b, S, M, d, s, ra, rb, hf, q⟩ => ?_
  unfold opDiv at hf
  split at hf
  · obtain ⟨hm, rfl⟩ := ite_some hf
    exact ⟨_, _, rep_int ra, rep_int rb, hm, kG_here s (Rep.int _) q⟩
  · cases hf
theorem o_mod : OpR X (binaryOp .Mod) (rF2 g opMod) := by
  refine op_mod.weak fun x y H Q ⟨a, b, S, M, d, s, ra, rb, hf, q⟩ => ?_
  unfold opMod at hf
  split at hf
  · obtain ⟨hm, rfl⟩ := ite_some hf
    exact ⟨_, _, rep_int ra, rep_int rb, hm, kG_here s (Rep.int _) q⟩
  · cases hf
theorem o_pow : OpR X (binaryOp .Pow) (rF2 g opPow) := by
  refine op_pow.weak fun x y H Q ⟨a, b, S, M, d, s, ra, rb, hf, q⟩ => ?_
  unfold opPow at hf
  split at hf
  · obtain ⟨hm, rfl⟩ := ite_some hf
    exact ⟨_, _, rep_int ra, rep_int rb, ⟨hm.1.1, hm.1.2, hm.2⟩, kG_here s (Rep.int _) q⟩
  · cases hf
theorem o_lt : OpR X (compareOp .Lt) (rF2 g opLt) := by
  refine op_lt.weak fun x y H Q ⟨a, b, S, M, d, s, ra, rb, hf, q⟩ => ?_
  unfold opLt at hf
  split at hf
  · cases hf; exact ⟨_, _, rep_int ra, rep_int rb, kG_here s (Rep.bl _) q⟩
  · cases hf
theorem o_le : OpR X (compareOp .LtE) (rF2 g opLe) := by
  refine op_le.weak fun x y H Q ⟨a, b, S, M, d, s, ra, rb, hf, q⟩ => ?_
  unfold opLe at hf
  split at hf
  · cases hf; exact ⟨_, _, rep_int ra, rep_int rb, kG_here s (Rep.bl _) q⟩
  · cases hf
theorem o_gt : OpR X (compareOp .Gt) (rF2 g opGt) := by
  refine op_gt.weak fun x y H Q ⟨a, b, S, M, d, s, ra, rb, hf, q⟩ => ?_
  unfold opGt at hf
  split at hf
  · cases hf; exact ⟨_, _, rep_int ra, rep_int rb, kG_here s (Rep.bl _) q⟩
  · cases hf
theorem o_ge : OpR X (compareOp .GtE) (rF2 g opGe) := by
  refine op_ge.weak fun x y H Q ⟨a, b, S, M, d, s, ra, rb, hf, q⟩ => ?_
  unfold opGe at hf
  split at hf
  · cases hf; exact ⟨_, _, rep_int ra, rep_int rb, kG_here s (Rep.bl _) q⟩
  · cases hf
/-- a rule from the library's own, over data that is read -/
theorem eqOk_of {p q : PyData} (h : eqOk p q = true) : p.plain = true ∧ q.plain = true ∧ min p.depth q.depth ≤ 100 := by
  simp only [eqOk, Bool.and_eq_true, decide_eq_true_eq] at h
  exact ⟨h.1.1, h.1.2, h.2⟩
theorem o_eq (hK : g.K = X.K) (hu : X.A.units + 100 < cLine) : OpR X (compareOp .Eq) (rF2 g opEq) := by
  intro pins s0 σ H x y v u Q I rx ry ⟨a, b, S, M, d, s, ra, rb, hf, q⟩
  obtain ⟨ho, rfl⟩ := ite_some hf
  obtain ⟨h1, h2, h3⟩ := eqOk_of ho
  obtain ⟨as, r1⟩ := rep_reads I hK (fun _ _ h => h) _ _ _ (rep_der s ra) h1 rx
  obtain ⟨bs, r2⟩ := rep_reads I hK (fun _ _ h => h) _ _ _ (rep_der s rb) h2 ry
  exact SeqAt.eq_plain r1 r2 h1 h2 (by omega) ⟨.bl _, H, I, rfl, kG_here s (Rep.bl _) q⟩
theorem o_ne (hK : g.K = X.K) (hu : X.A.units + 100 < cLine) : OpR X (compareOp .NotEq) (rF2 g opNe) := by
  intro pins s0 σ H x y v u Q I rx ry ⟨a, b, S, M, d, s, ra, rb, hf, q⟩
  obtain ⟨ho, rfl⟩ := ite_some hf
  obtain ⟨h1, h2, h3⟩ := eqOk_of ho
  obtain ⟨as, r1⟩ := rep_reads I hK (fun _ _ h => h) _ _ _ (rep_der s ra) h1 rx
  obtain ⟨bs, r2⟩ := rep_reads I hK (fun _ _ h => h) _ _ _ (rep_der s rb) h2 ry
  exact SeqAt.ne_plain r1 r2 h1 h2 (by omega) ⟨.bl _, H, I, rfl, kG_here s (Rep.bl _) q⟩
theorem non_iff {M : Mt} {v : V} {d : D} (r : Rep g M v d) : decide (v = .non) = isNonD d := by
  cases r <;> simp [isNonD]
theorem o_isN : OpR X (compareOp .Is) (rF2 g opIsN) := by
  refine op_isN.weak fun x y H Q ⟨a, b, S, M, d, s, ra, rb, hf, q⟩ => ?_
  unfold opIsN at hf
  split at hf
  · cases hf
    cases rb
    exact ⟨rfl, by rw [non_iff ra]; exact kG_here s (Rep.bl _) q⟩
  · cases hf
theorem o_notN : OpR X (compareOp .IsNot) (rF2 g opNotN) := by
  refine op_notN.weak fun x y H Q ⟨a, b, S, M, d, s, ra, rb, hf, q⟩ => ?_
  unfold opNotN at hf
  split at hf
  · cases hf
    cases rb
    refine ⟨rfl, ?_⟩
    rw [non_iff ra]
    exact kG_here s (Rep.bl _) q
  · cases hf
theorem omap {α β : Type} {o : Option α} {f : α → β} {b : β} (h : o.map f = some b) : ∃ a, o = some a ∧ f a = b := by
  cases o with
  | none => cases h
  | some a => exact ⟨a, rfl, Option.some.inj h⟩
theorem in_core (hK : g.K = X.K) (hu : X.A.units + 200 < cLine) (neg : Bool) : OpR X (compareOp (if neg then .NotIn else .In)) (rF2 g fun x y S => (inRes x (der S y)).map fun b => .bl (if neg then !b else b)) := by
  intro pins s0 σ H x y v u Q I rx ry ⟨a, b, S, M, d, s, ra, rb, hf, q⟩
  obtain ⟨r, hr, rfl⟩ := omap hf
  have fin : EP X pins σ Q (.bool (if neg then !r else r)) s0 := ⟨.bl _, H, I, rfl, kG_here s (Rep.bl _) q⟩
  unfold inRes at hr
  split at hr
  · rename_i j e
    split at hr
    · rename_i i
      cases hr
      rw [s.strL rb e] at ry
      rw [rep_str ra] at rx
      obtain ⟨t, rfl⟩ := rx
      obtain ⟨t', rfl⟩ := ry
      cases neg with
      | true => exact notIn_str fin
      | false => exact in_str fin
    · cases hr
  · rename_i ys e
    obtain ⟨hp, rfl⟩ := ite_some hr
    simp only [Bool.and_eq_true, decide_eq_true_eq] at hp
    obtain ⟨⟨h1, h2⟩, h3⟩ := hp
    obtain ⟨bs, r1⟩ := rep_reads I hK s.im _ _ _ ra h2 rx
    obtain ⟨as, r2⟩ := rep_reads I hK (fun _ _ h => h) _ _ _ (e ▸ rep_der s rb) (by show PyData.plain (.list _) = true; simpa [PyData.plain] using h1) ry
    cases neg with
    | true => exact SeqAt.notIn_list_data r2 r1 h1 h2 (by omega) fin
    | false => exact SeqAt.in_list_data r2 r1 h1 h2 (by omega) fin
  · rename_i ys e
    obtain ⟨hp, rfl⟩ := ite_some hr
    simp only [Bool.and_eq_true, decide_eq_true_eq] at hp
    obtain ⟨⟨h1, h2⟩, h3⟩ := hp
    obtain ⟨bs, r1⟩ := rep_reads I hK s.im _ _ _ ra h2 rx
    obtain ⟨as, r2⟩ := rep_reads I hK (fun _ _ h => h) _ _ _ (e ▸ rep_der s rb) (by show PyData.plain (.tuple _) = true; simpa [PyData.plain] using h1) ry
    cases neg with
    | true => exact SeqAt.notIn_tuple_data r2 r1 h1 h2 (by omega) fin
    | false => exact SeqAt.in_tuple_data r2 r1 h1 h2 (by omega) fin
  · cases hr
theorem o_in (hK : g.K = X.K) (hu : X.A.units + 200 < cLine) : OpR X (compareOp .In) (rF2 g opIn) := in_core hK hu false
theorem o_notIn (hK : g.K = X.K) (hu : X.A.units + 200 < cLine) : OpR X (compareOp .NotIn) (rF2 g opNotIn) := in_core hK hu true
end
end DL

namespace DL
open PySem PySem.Spec PyProof.Rows L2

/-! ### statements -/
section
variable {X : Cx} {g : G} {W : WX} {a b c : Expr} {fa fb fc : Ev} {ft : Tv} {pos : Pos} {st : Stmt} {rest : List Stmt} {f u : Sv}
def sNil : Sv := fun e S => .nx e S
def sSeq (f u : Sv) : Sv := fun e S => match f e S with
  | .nx e S => u e S
  | o => o
theorem s_nil : PSs X [] (tS g W sNil) := pss_nil.weak fun D σ H ⟨e, S, M, s, er, q⟩ => q σ M H (.refl s) er
theorem s_cons (h1 : PS X st (tS g W f)) (h2 : PSs X rest (tS g W u)) : PSs X (st :: rest) (tS g W (sSeq f u)) := by
  refine (pss_cons h1 h2).weak fun D σ H ⟨e, S, M, s, er, q⟩ => ⟨e, S, M, s, er, ?_⟩
  unfold sSeq at q
  cases h : f e S with
  | nx e' S' => rw [h] at q; exact fun σ' M' H' n r => ⟨e', S', M', n.sim, r, kS_nx n q⟩
  | rt d S' => rw [h] at q; exact q
  | bk e' S' => rw [h] at q; exact q
  | ct e' S' => rw [h] at q; exact q
  | exc x e' S' => rw [h] at q; exact q
  | bad => rw [h] at q; exact q
theorem s_one (h1 : PS X st (tS g W f)) : PSs X [st] (tS g W f) := pss_one h1
def sPass : Sv := fun e S => .nx e S
def sBreak : Sv := fun e S => .bk e S
def sCont : Sv := fun e S => .ct e S
theorem s_pass : PS X (.Pass pos) (tS g W sPass) := ps_pass.weak fun D σ H ⟨e, S, M, s, er, q⟩ => q σ M H (.refl s) er
theorem s_break : PS X (.Break pos) (tS g W sBreak) := ps_break.weak fun D σ H ⟨e, S, M, s, er, q⟩ => q σ M H (.refl s) er
theorem s_cont : PS X (.Continue pos) (tS g W sCont) := ps_continue.weak fun D σ H ⟨e, S, M, s, er, q⟩ => q σ M H (.refl s) er
def sExpr (fa : Ev) : Sv := fun e S => (fa e S).into e fun _ S => .nx e S
theorem s_expr (ha : PE X a (tE g W fa)) (hs : swapsWith a none pos.line X.env = pure false := by rfl) : PS X (.Expr a pos) (tS g W (sExpr fa)) := by
  refine (ps_expr ha hs).weak fun D σ H ⟨e, S, M, s, er, q⟩ => ⟨e, S, M, s, er, seqS er q fun v d S1 M1 H1 n r er1 q1 => ?_⟩
  exact q1 σ M1 H1 (.refl n.sim) er1
theorem s_doc {x : Str} {j : Nat} {pos' : Pos} : PS X (.Expr (.Constant (.str x) j pos) pos') (tS g W sPass) := ps_doc.weak fun D σ H ⟨e, S, M, s, er, q⟩ => q σ M H (.refl s) er
def sRet (fa : Ev) : Sv := fun e S => (fa e S).into e fun d S => .rt d S
theorem s_ret (ha : PE X a (tE g W fa)) : PS X (.Return (some a) pos) (tS g W (sRet fa)) := by
  refine (ps_ret ha).weak fun D σ H ⟨e, S, M, s, er, q⟩ => ⟨e, S, M, s, er, seqS er q fun v d S1 M1 H1 n r er1 q1 => ?_⟩
  exact q1 v M1 H1 (.refl n.sim) r
def sRetN : Sv := fun _ S => .rt .non S
theorem s_retN : PS X (.Return none pos) (tS g W sRetN) := ps_retN.weak fun D σ H ⟨e, S, M, s, er, q⟩ => q .non M H (.refl s) .non
def sIf (t : Tv) (f u : Sv) : Sv := fun e S => (t e S).into e fun c S => if c = true then f e S else u e S
theorem s_if {x y : List Stmt} (hc : PT X c (tT g W ft)) (ha : PSs X x (tS g W f)) (hb : PSs X y (tS g W u)) : PS X (.If c x y pos) (tS g W (sIf ft f u)) := by
  refine (ps_if hc ha hb).weak fun D σ H ⟨e, S, M, s, er, q⟩ => ⟨e, S, M, s, er, seqS (Rl := fun _ (a b : Bool) => a = b) er q fun v d S1 M1 H1 n r er1 q1 => ?_⟩
  subst r
  cases v with
  | true => exact ⟨e, S1, M1, n.sim, er1, q1⟩
  | false => exact ⟨e, S1, M1, n.sim, er1, q1⟩
/-- name = value -/
def sSet (i : Nat) (fa : Ev) : Sv := fun e S => (fa e S).into e fun d S => .nx (e.set i (some d)) S
theorem s_set {i : Nat} {x : Str} {pos' : Pos} (hN : X.N.Nodup) (hi : X.N[i]? = some x) (hx : Loc X.env.scope x) (ha : PE X a (tE g W fa)) (hs : swapsWith a (some (.Name x pos')) pos.line X.env = pure false := by rfl) (hf : X.fn x = true ∨ X.env.scope.names.lookup x = some .local := by first | exact .inl rfl | exact .inr rfl | assumption) :
    PS X (.Assign [.Name x pos'] a pos) (tS g W (sSet i fa)) := by
  refine (ps_set hN hi hx ha hs hf).weak fun D σ H ⟨e, S, M, s, er, q⟩ => ⟨e, S, M, s, er, seqS er q fun v d S1 M1 H1 n r er1 q1 => ?_⟩
  exact q1 _ M1 H1 (.refl n.sim) (er1.set r)
/-! ### targets -/
/-- a target: the slots behind it (the store may change) -/
abbrev Gv := D → Env → Sto → Option (Env × Sto)
/-- the slots but those at vs stay -/
def OffS (vs : List Nat) (σ σ' : L2.St) : Prop := σ'.length = σ.length ∧ ∀ i, i ∉ vs → σ'[i]? = σ[i]?
def tGv (g : G) (vs : List Nat) (G : Gv) : TG := fun v σ H Q => ∃ (d : D) (e : Env) (S : Sto) (M : Mt) (r : Env × Sto), Sim g M H S ∧ EnvR g M σ e ∧ Rep g M v d ∧ G d e S = some r ∧ ∀ σ' M' H', Nxt g M H r.2 M' H' → EnvR g M' σ' r.1 → OffS vs σ σ' → Q σ' H'
theorem _root_.L2.PG.weak {tg : Expr} {t t' : TG} (h : PG X tg t) (w : ∀ v σ H Q, t' v σ H Q → t v σ H Q) : PG X tg t' := ⟨fun pins s σ H v u Q I r q => h.run pins s σ H v u Q I r (w v σ H Q q)⟩
def gvName (i : Nat) : Gv := fun d e S => some (e.set i (some d), S)
theorem g_name {i : Nat} {x : Str} (hN : X.N.Nodup) (hi : X.N[i]? = some x) (hx : Loc X.env.scope x) (hf : X.fn x = true ∨ X.env.scope.names.lookup x = some .local := by first | exact .inl rfl | exact .inr rfl | assumption) : PG X (.Name x pos) (tGv g [i] (gvName i)) := by
  refine (pg_name hN hi hx hf).weak fun v σ H Q ⟨d, e, S, M, r, s, er, rv, hr, q⟩ => ?_
  cases hr
  exact q _ M H (.refl s) (er.set rv) ⟨by simp, fun j hj => List.getElem?_set_ne fun z => hj (by simp [z])⟩
abbrev Gvs := List D → Env → Sto → Option (Env × Sto)
def tGvs (g : G) (vs : List Nat) (G : Gvs) : TGs := fun xs σ H Q => ∃ (ds : List D) (e : Env) (S : Sto) (M : Mt) (r : Env × Sto), Sim g M H S ∧ EnvR g M σ e ∧ Reps g M xs ds ∧ G ds e S = some r ∧ ∀ σ' M' H', Nxt g M H r.2 M' H' → EnvR g M' σ' r.1 → OffS vs σ σ' → Q σ' H'
theorem _root_.L2.PGs.weak {tg : List Expr} {t t' : TGs} (h : PGs X tg t) (w : ∀ v σ H Q, t' v σ H Q → t v σ H Q) : PGs X tg t' := ⟨fun pins s σ H v u Q I r q => h.run pins s σ H v u Q I r (w v σ H Q q)⟩
def gvNil : Gvs := fun ds e S => match ds with
  | [] => some (e, S)
  | _ => none
def gvCons (G : Gv) (Gs : Gvs) : Gvs := fun ds e S => match ds with
  | d :: ds => (G d e S).bind fun r => Gs ds r.1 r.2
  | [] => none
theorem gs_nil : PGs X [] (tGvs g [] gvNil) := by
  refine pgs_nil.weak fun vs σ H Q ⟨ds, e, S, M, r, s, er, rv, hr, q⟩ => ?_
  cases rv with
  | nil => cases hr; exact ⟨rfl, q _ M H (.refl s) er ⟨rfl, fun _ _ => rfl⟩⟩
  | cons _ _ => cases hr
theorem gs_cons {tg : Expr} {es : List Expr} {G : Gv} {Gs : Gvs} {us ws : List Nat} (h1 : PG X tg (tGv g us G)) (h2 : PGs X es (tGvs g ws Gs)) (hs : (assignEach (tg :: es) X.env).map (·.2) = assign tg X.env :: (assignEach es X.env).map (·.2) := by rfl) : PGs X (tg :: es) (tGvs g (us ++ ws) (gvCons G Gs)) := by
  refine (pgs_cons h1 h2 hs).weak fun vs σ H Q ⟨ds, e, S, M, r, s, er, rv, hr, q⟩ => ?_
  cases rv with
  | nil => cases hr
  | @cons v vs d ds r1 r2 =>
    obtain ⟨p, hp, hr⟩ := obind hr
    refine ⟨v, vs, rfl, d, e, S, M, p, s, er, r1, hp, fun σ1 M1 H1 n1 er1 o1 => ?_⟩
    exact ⟨ds, p.1, p.2, M1, r, n1.sim, er1, r2.le n1.le, hr, fun σ' M' H' n' er' o2 => q σ' M' H' (n1.trans n') er' ⟨o2.1.trans o1.1, fun i hi => (o2.2 i fun z => hi (List.mem_append_right _ z)).trans (o1.2 i fun z => hi (List.mem_append_left _ z))⟩⟩
def gvTup (n : Nat) (Gs : Gvs) : Gv := fun d e S => match d with
  | .tup ds => if ds.length = n then Gs ds e S else none
  | _ => none
theorem g_tup {es : List Expr} {k : Nat} {Gs : Gvs} {n : Nat} {us : List Nat} (hK : g.K = X.K) (hc : X.calm = true) (h : PGs X es (tGvs g us Gs)) (hn : (assignEach es X.env).length = n := by rfl) (hst : (assignEach es X.env).findIdx? (·.1) = none := by rfl) : PG X (.Tuple es k pos) (tGv g us (gvTup n Gs)) := by
  refine (pg_tup hc h hn hst).weak fun v σ H Q ⟨d, e, S, M, r, s, er, rv, hr, q⟩ => ?_
  unfold gvTup at hr
  split at hr
  · rename_i ds
    by_cases hl : ds.length = n
    · rw [if_pos hl] at hr
      cases rv with
      | tup a b => exact ⟨_, _, rfl, hK ▸ sqt_le s.im a, by rw [b.len]; exact hl, ds, e, S, M, r, s, er, b, hr, q⟩
    · rw [if_neg hl] at hr; cases hr
  · cases hr
/-- target = value -/
def sAsg (fa : Ev) (G : Gv) : Sv := fun e S => (fa e S).into e fun d S => match G d e S with
  | some r => .nx r.1 r.2
  | none => .bad
theorem s_asg {tg : Expr} {G : Gv} {us : List Nat} (ha : PE X a (tE g W fa)) (hg : PG X tg (tGv g us G)) (hs : swapsWithSole [tg] a pos.line X.env = pure false := by rfl) (hw : swappedStores [tg] a X.env = pure none := by rfl)
    (h1 : (assignEach [tg] X.env).map (·.2) = [assign tg X.env] := by rfl) : PS X (.Assign [tg] a pos) (tS g W (sAsg fa G)) := by
  refine (ps_asg ha hg hs hw h1).weak fun D σ H ⟨e, S, M, s, er, q⟩ => ⟨e, S, M, s, er, seqS er q fun v d S1 M1 H1 n r er1 q1 => ?_⟩
  cases hG : G d e S1 with
  | none => rw [hG] at q1; exact q1.elim
  | some p => rw [hG] at q1; exact ⟨d, e, S1, M1, p, n.sim, er1, r, hG, fun σ' M' H' n' er' _ => q1 σ' M' H' n' er'⟩
/-- a, b = x, y: two and three local names -/
def sPar2 (i j : Nat) (fr : Av) : Sv := fun e S => (fr e S).into e fun ds S => match ds with
  | [x, y] => .nx ((e.set i (some x)).set j (some y)) S
  | _ => .bad
theorem s_par2 {i j : Nat} {x y : Str} {fr : Av} {px py pt : Pos} {kt : Nat} {k2 : Nat} {pt2 : Pos} (hc : X.calm = true) (hN : X.N.Nodup) (hi : X.N[i]? = some x) (hj : X.N[j]? = some y) (hij : i ≠ j)
    (hx : X.env.scope.names.lookup x = some .local) (hy : X.env.scope.names.lookup y = some .local) (ha : PA X [a, b] (tA g W fr))
    (hw : swappedStores [.Tuple [.Name x px, .Name y py] kt pt] (.Tuple [a, b] k2 pt2) X.env = pure (some [x, y]))
    (hs : swapsWithSole [.Tuple [.Name x px, .Name y py] kt pt] (.Tuple [a, b] k2 pt2) pos.line X.env = pure false := by rfl) :
    PS X (.Assign [.Tuple [.Name x px, .Name y py] kt pt] (.Tuple [a, b] k2 pt2) pos) (tS g W (sPar2 i j fr)) := by
  refine (ps_par hc hN hi hj hij hx hy ha hw hs).weak fun D σ H ⟨e, S, M, s, er, q⟩ => ⟨e, S, M, s, er, seqS er q fun vs ds S1 M1 H1 n r er1 q1 => ?_⟩
  split at q1
  · cases r with
    | cons r1 r2 =>
      cases r2 with
      | cons r2 r3 =>
        cases r3
        exact ⟨_, _, rfl, q1 _ M1 H1 (.refl n.sim) ((er1.set r1).set r2)⟩
  · exact q1.elim
def sPar3 (i j l : Nat) (fr : Av) : Sv := fun e S => (fr e S).into e fun ds S => match ds with
  | [x, y, z] => .nx (((e.set i (some x)).set j (some y)).set l (some z)) S
  | _ => .bad
theorem s_par3 {i j l : Nat} {x y z : Str} {fr : Av} {px py pz pt : Pos} {kt : Nat} {k2 : Nat} {pt2 : Pos} (hc : X.calm = true) (hN : X.N.Nodup) (hi : X.N[i]? = some x) (hj : X.N[j]? = some y) (hl : X.N[l]? = some z) (hij : i ≠ j) (hil : i ≠ l) (hjl : j ≠ l)
    (hx : X.env.scope.names.lookup x = some .local) (hy : X.env.scope.names.lookup y = some .local) (hz : X.env.scope.names.lookup z = some .local) (ha : PA X [a, b, c] (tA g W fr))
    (hw : swappedStores [.Tuple [.Name x px, .Name y py, .Name z pz] kt pt] (.Tuple [a, b, c] k2 pt2) X.env = pure (some [x, y, z]))
    (hs : swapsWithSole [.Tuple [.Name x px, .Name y py, .Name z pz] kt pt] (.Tuple [a, b, c] k2 pt2) pos.line X.env = pure false := by rfl) :
    PS X (.Assign [.Tuple [.Name x px, .Name y py, .Name z pz] kt pt] (.Tuple [a, b, c] k2 pt2) pos) (tS g W (sPar3 i j l fr)) := by
  refine (ps_par3 hc hN hi hj hl hij hil hjl hx hy hz ha hw hs).weak fun D σ H ⟨e, S, M, s, er, q⟩ => ⟨e, S, M, s, er, seqS er q fun vs ds S1 M1 H1 n r er1 q1 => ?_⟩
  split at q1
  · cases r with
    | cons r1 r2 =>
      cases r2 with
      | cons r2 r3 =>
        cases r3 with
        | cons r3 r4 =>
          cases r4
          exact ⟨_, _, _, rfl, q1 _ M1 H1 (.refl n.sim) (((er1.set r1).set r2).set r3)⟩
  · exact q1.elim
/-! ### from now on it stays as it is: ghost steps -/
def MO.ofLoc (S : Sto) : D → Option (Nat × MO)
  | .loc l => match S[l]? with
    | some mo => if mo.live = true then some (l, mo) else none
    | none => none
  | _ => none
theorem ofLoc_some {S : Sto} {d : D} {l : Nat} {mo : MO} (h : MO.ofLoc S d = some (l, mo)) : d = .loc l ∧ S[l]? = some mo ∧ mo.live = true := by
  unfold MO.ofLoc at h
  split at h
  · rename_i k
    split at h
    · rename_i m e
      obtain ⟨hl, h⟩ := ite_some h
      cases h
      exact ⟨rfl, e, hl⟩
    · cases h
  · cases h
def eFrz (fa : Ev) : Ev := fun e S => (fa e S).bind fun d S => match MO.ofLoc S d with
  | some (l, mo) => .ok mo.val (S.set l .dead)
  | none => .bad
theorem d_frz (ha : PE X a (tE g W fa)) : PE X a (tE g W (eFrz fa)) := by
  refine ha.weak fun σ H Q ⟨e, S, M, s, er, q⟩ => ⟨e, S, M, s, er, seqG (R := Q) q fun x d S1 M1 H1 n1 r1 q1 => ?_⟩
  cases h : MO.ofLoc S1 d with
  | none => rw [h] at q1; exact (show False from q1).elim
  | some p =>
    obtain ⟨l, mo⟩ := p
    rw [h] at q1
    obtain ⟨rfl, h1, h2⟩ := ofLoc_some h
    obtain ⟨b, rfl, hl⟩ := r1.at_loc
    obtain ⟨M', n', r'⟩ := Nxt.freeze n1.sim hl h1 h2
    exact q1 _ M' H1 n' r'
def sFrz (i : Nat) (f : Sv) : Sv := fun e S => match e[i]? with
  | some (some d) => match MO.ofLoc S d with
    | some (l, mo) => f (e.set i (some mo.val)) (S.set l .dead)
    | none => .bad
  | _ => .bad
theorem s_frz {i : Nat} (h : PS X st (tS g W f)) : PS X st (tS g W (sFrz i f)) := by
  refine h.weak fun D σ H ⟨e, S, M, s, er, q⟩ => ?_
  unfold sFrz at q
  cases h1 : e[i]? with
  | none => rw [h1] at q; exact q.elim
  | some o =>
    cases o with
    | none => rw [h1] at q; exact q.elim
    | some d =>
      rw [h1] at q
      dsimp only at q
      cases h : MO.ofLoc S d with
      | none => rw [h] at q; exact q.elim
      | some p =>
        obtain ⟨l, mo⟩ := p
        rw [h] at q
        obtain ⟨rfl, h2, h3⟩ := ofLoc_some h
        obtain ⟨v, hv, r⟩ := er.2 i _ h1
        obtain ⟨b, rfl, hl⟩ := r.at_loc
        obtain ⟨M', n', r'⟩ := Nxt.freeze s hl h2 h3
        have e1 : σ.set i (some (V.ref b)) = σ := by
          refine List.ext_getElem? fun j => ?_
          by_cases hj : i = j
          · subst hj
            rw [List.getElem?_set_self (List.getElem?_eq_some_iff.mp hv).1, hv]
          · rw [List.getElem?_set_ne hj]
        exact ⟨_, _, M', n'.sim, by rw [← e1]; exact (er.le n'.le).set r', kS_nx n' q⟩
end
end DL

namespace DL
open PySem PySem.Spec PyProof.Rows L2

/-! ### what is walked -/
/-- at every later state, turn by turn, the iterator gives the items -/
def JOk (g : G) (M : Mt) (H : Hp) (J : It) (ds : List D) : Prop :=
  ∀ (M2 : Mt) (H2 : Hp) (S2 : Sto) (i : Nat), Nxt g M H S2 M2 H2 →
    (∀ d, ds[i]? = some d → J.go i H2 ∧ ∀ x H3, J.yld i H2 x H3 → ∃ M3, Nxt g M2 H2 S2 M3 H3 ∧ Rep g M3 x d) ∧ (ds.length ≤ i → J.stop i H2)
def tI (g : G) (W : WX) (fi : Av) : TI := fun σ H R => ∃ (e : Env) (S : Sto) (M : Mt), Sim g M H S ∧ EnvR g M σ e ∧
  (fi e S).on (fun ds S' => ∀ J M' H', Nxt g M H S' M' H' → JOk g M' H' J ds → R J H') (kX g W M H σ)
theorem _root_.L2.PI.weak {X : Cx} {tg e : Expr} {t t' : TI} (h : PI X tg e t) (w : ∀ σ H Q, t' σ H Q → t σ H Q) : PI X tg e t' := ⟨fun pins s σ H Q I q => h.run pins s σ H Q I (w σ H Q q)⟩

def forL (G : Gv) (f : Sv) : List D → Sv
  | [], e, S => .nx e S
  | d :: ds, e, S => match G d e S with
    | none => .bad
    | some r => match f r.1 r.2 with
      | .nx e2 S2 => forL G f ds e2 S2
      | .ct e2 S2 => forL G f ds e2 S2
      | .bk e2 S2 => .nx e2 S2
      | o => o
def sFor (fi : Av) (G : Gv) (f : Sv) : Sv := fun e S => (fi e S).into e fun ds S => forL G f ds e S
section
variable {X : Cx} {g : G} {W : WX} {a b c : Expr} {fa fb fc : Ev} {ft : Tv} {pos : Pos} {tg iter : Expr} {fi : Av} {G : Gv} {body : List Stmt} {f : Sv}
theorem JOk.le {M M1 : Mt} {H H1 : Hp} {S1 : Sto} {J : It} {ds : List D} (h : JOk g M H J ds) (n : Nxt g M H S1 M1 H1) : JOk g M1 H1 J ds := fun M2 H2 S2 i n2 => h M2 H2 S2 i (n.trans n2)
/-- what is walked, then the rest -/
theorem seqI {M : Mt} {H : Hp} {σ : L2.St} {r : Ret (List D)} {e : Env} {k : List D → Sto → Out} {D : Ends} {R : It → Hp → Prop} (er : EnvR g M σ e) (h : kS g W M H D (r.into e k))
    (hk : ∀ J ds S1 M1 H1, Nxt g M H S1 M1 H1 → JOk g M1 H1 J ds → EnvR g M1 σ e → kS g W M1 H1 D (k ds S1) → R J H1) :
    r.on (fun ds S' => ∀ J M' H', Nxt g M H S' M' H' → JOk g M' H' J ds → R J H') (kX g W M H σ) := by
  cases r with
  | ok b S1 => exact fun J M1 H1 n rl => hk J b S1 M1 H1 n rl (er.le n.le) (kS_nx n h)
  | exc x S1 => exact fun c o M1 H1 n rx => h c o σ M1 H1 n rx (er.le n.le)
  | bad => exact h
theorem drop_cons {α : Type} {ds : List α} {i : Nat} {d : α} (h : ds[i]? = some d) : ds.drop i = d :: ds.drop (i + 1) := by
  obtain ⟨hl, e⟩ := List.getElem?_eq_some_iff.mp h
  rw [List.drop_eq_getElem_cons hl, e]
theorem s_for {us : List Nat} (hp : PassesOwn (model X.prog X.w) X.A X.env X.xe) (hc : X.calm = true) (hi : PI X tg iter (tI g W fi)) (hg : PG X tg (tGv g us G)) (hb : PSs X body (tS g W f))
    (hs : ∀ x, foldedSetIterable iter X.env x = pure x := by intro _; rfl) : PS X (.For tg iter body [] pos) (tS g W (sFor fi G f)) := by
  refine (ps_for hp hc hi hg hb hs).weak fun D σ H ⟨e, S, M, s, er, q⟩ => ⟨e, S, M, s, er, seqI er q fun J ds S1 M1 H1 n1 hJ er1 q1 => ?_⟩
  refine ⟨fun i m σ2 H2 => ∃ (e2 : Env) (S2 : Sto) (M2 : Mt), Nxt g M1 H1 S2 M2 H2 ∧ EnvR g M2 σ2 e2 ∧ m = ds.length - i ∧ kS g W M2 H2 D (forL G f (ds.drop i) e2 S2), ⟨ds.length, e, S1, M1, .refl n1.sim, er1, by simp, by simpa using q1⟩, ?_⟩
  rintro i m σ2 H2 ⟨e2, S2, M2, n2, er2, rfl, q2⟩
  obtain ⟨j1, j2⟩ := hJ M2 H2 S2 i n2
  cases hd : ds[i]? with
  | none =>
    have hl : ds.length ≤ i := List.getElem?_eq_none_iff.mp hd
    rw [List.drop_of_length_le hl] at q2
    exact .inl ⟨j2 hl, q2 σ2 M2 H2 (.refl n2.sim) er2⟩
  | some d =>
    obtain ⟨go, yl⟩ := j1 d hd
    have hl : i < ds.length := (List.getElem?_eq_some_iff.mp hd).1
    rw [drop_cons hd] at q2
    unfold forL at q2
    refine .inr ⟨go, fun σ3 H3 => ∃ (e3 : Env) (S3 : Sto) (M3 : Mt), Nxt g M1 H1 S3 M3 H3 ∧ EnvR g M3 σ3 e3 ∧ kS g W M3 H3 D (forL G f (ds.drop (i + 1)) e3 S3), fun σ3 H3 ⟨e3, S3, M3, n3, er3, q3⟩ => ⟨ds.length - (i + 1), by omega, e3, S3, M3, n3, er3, rfl, q3⟩, fun x H3 hy => ?_⟩
    obtain ⟨M3, n3, r3⟩ := yl x H3 hy
    cases hG : G d e2 S2 with
    | none => rw [hG] at q2; exact q2.elim
    | some p =>
      rw [hG] at q2
      dsimp only at q2
      refine ⟨d, e2, S2, M3, p, n3.sim, er2.le n3.le, r3, hG, fun σ4 M4 H4 n4 er4 _ => ?_⟩
      have n14 := (n2.trans n3).trans n4
      refine ⟨p.1, p.2, M4, n4.sim, er4, ?_⟩
      have k := kS_nx (n3.trans n4) (o := match f p.1 p.2 with
        | .nx e2 S2 => forL G f (ds.drop (i + 1)) e2 S2
        | .ct e2 S2 => forL G f (ds.drop (i + 1)) e2 S2
        | .bk e2 S2 => .nx e2 S2
        | o => o) q2
      cases hf : f p.1 p.2 with
      | nx e5 S5 => rw [hf] at k; exact fun σ5 M5 H5 n5 er5 => ⟨e5, S5, M5, n14.trans n5, er5, kS_nx n5 k⟩
      | ct e5 S5 => rw [hf] at k; exact fun σ5 M5 H5 n5 er5 => ⟨e5, S5, M5, n14.trans n5, er5, kS_nx n5 k⟩
      | bk e5 S5 => rw [hf] at k; exact k
      | rt d5 S5 => rw [hf] at k; exact k
      | exc x5 e5 S5 => rw [hf] at k; exact k
      | bad => rw [hf] at k; exact k

/-! ### the walks -/
theorem Reps.get {M : Mt} : ∀ {vs : List V} {ds : List D} {i : Nat} {v : V} {d : D}, Reps g M vs ds → vs[i]? = some v → ds[i]? = some d → Rep g M v d
  | _, _, 0, _, _, .cons a _, h1, h2 => by simp at h1 h2; subst h1 h2; exact a
  | _, _, i + 1, _, _, .cons _ t, h1, h2 => Reps.get (i := i) t (by simpa using h1) (by simpa using h2)
  | _, _, _, _, _, .nil, h1, _ => by simp at h1
theorem Reps.getV {M : Mt} {vs : List V} {ds : List D} {i : Nat} {d : D} (r : Reps g M vs ds) (h : ds[i]? = some d) : ∃ v, vs[i]? = some v ∧ Rep g M v d := by
  have hl := (List.getElem?_eq_some_iff.mp h).1
  have hl' : i < vs.length := by rw [r.len]; exact hl
  exact ⟨vs[i], List.getElem?_eq_getElem hl', r.get (List.getElem?_eq_getElem hl') h⟩
/-- the items of a list or tuple that stays, of a text, of a range -/
def asLst : D → Option (List D)
  | .lst ds => some ds
  | .frz ds => some ds
  | _ => none
def asTup : D → Option (List D)
  | .tup ds => some ds
  | _ => none
def asSigns : D → Option (List D)
  | .str x => some (x.cps.toList.map fun c => .str ⟨#[c]⟩)
  | _ => none
def iOf (p : D → Option (List D)) (fa : Ev) : Av := fun e S => (fa e S).bind fun d S => Ret.of (p d) S
theorem seqJ {α β : Type} {Rl : Mt → α → β → Prop} {M : Mt} {H : Hp} {σ : L2.St} {r : Ret β} {k : β → Sto → Ret (List D)} {Q : It → Hp → Prop} {R : α → Hp → Prop}
    (h : (r.bind k).on (fun ds S' => ∀ J M' H', Nxt g M H S' M' H' → JOk g M' H' J ds → Q J H') (kX g W M H σ))
    (hk : ∀ a b S1 M1 H1, Nxt g M H S1 M1 H1 → Rl M1 a b → (k b S1).on (fun ds S' => ∀ J M' H', Nxt g M1 H1 S' M' H' → JOk g M' H' J ds → Q J H') (kX g W M1 H1 σ) → R a H1) :
    r.on (kG g Rl M H R) (kX g W M H σ) :=
  Ret.on_mono (Ret.on_bind h) (fun b S1 q a M1 H1 n rl => hk a b S1 M1 H1 n rl (Ret.on_mono q (fun _ _ z J M' H' n' j => z J M' H' (n.trans n') j) fun _ _ z => kX_nx n z)) fun _ _ z => z
theorem i_lst (hK : g.K = X.K) (ha : PE X a (tE g W fa)) : PI X tg a (tI g W (iOf asLst fa)) := by
  refine (pi_list ha).weak fun σ H Q ⟨e, S, M, s, er, q⟩ => ⟨e, S, M, s, er, seqJ q fun x d S1 M1 H1 n1 r1 q1 => ?_⟩
  obtain ⟨ds, hd, q1⟩ := Ret.of_on q1
  have key : ∃ p vs, x = .ref p ∧ SqL g.K M1.I p vs ∧ Reps g M1 vs ds := by
    cases d with
    | lst xs => cases hd; cases r1 with | lst h r => exact ⟨_, _, rfl, .inl (.inl h), r⟩
    | frz xs => cases hd; cases r1 with | frz h r => exact ⟨_, _, rfl, h, r⟩
    | _ => cases hd
  obtain ⟨p, vs, rfl, hp, r⟩ := key
  refine ⟨p, rfl, ⟨vs, hK ▸ sql_le n1.sim.im hp⟩, q1 _ M1 H1 (.refl n1.sim) fun M2 H2 S2 i n2 => ?_⟩
  have hp2 : SqL X.K H2 p vs := hK ▸ sql_le n2.sim.im (sql_le n2.le.I hp)
  refine ⟨fun d hd => ?_, fun hl => ⟨vs, hp2, by rw [r.len]; exact hl⟩⟩
  obtain ⟨v, hv, rv⟩ := r.getV hd
  refine ⟨⟨vs, v, hp2, hv⟩, fun y H3 hy => ?_⟩
  obtain ⟨rfl, hy⟩ := hy
  have e1 : some y = some v := (hy vs hp2).symm.trans hv
  cases e1
  exact ⟨M2, .refl n2.sim, rv.le n2.le⟩
theorem i_tup (hK : g.K = X.K) (ha : PE X a (tE g W fa)) : PI X tg a (tI g W (iOf asTup fa)) := by
  refine (pi_tup ha).weak fun σ H Q ⟨e, S, M, s, er, q⟩ => ⟨e, S, M, s, er, seqJ q fun x d S1 M1 H1 n1 r1 q1 => ?_⟩
  obtain ⟨ds, hd, q1⟩ := Ret.of_on q1
  have key : ∃ p vs, x = .ref p ∧ SqT g.K M1.I p vs ∧ Reps g M1 vs ds := by
    cases d with
    | tup xs => cases hd; cases r1 with | tup h r => exact ⟨_, _, rfl, h, r⟩
    | _ => cases hd
  obtain ⟨p, vs, rfl, hp, r⟩ := key
  refine ⟨p, rfl, ⟨vs, hK ▸ sqt_le n1.sim.im hp⟩, q1 _ M1 H1 (.refl n1.sim) fun M2 H2 S2 i n2 => ?_⟩
  have hp2 : SqT X.K H2 p vs := hK ▸ sqt_le n2.sim.im (sqt_le n2.le.I hp)
  refine ⟨fun d hd => ?_, fun hl => ⟨vs, hp2, by rw [r.len]; exact hl⟩⟩
  obtain ⟨v, hv, rv⟩ := r.getV hd
  refine ⟨⟨vs, v, hp2, hv⟩, fun y H3 hy => ?_⟩
  obtain ⟨rfl, hy⟩ := hy
  have e1 : some y = some v := (hy vs hp2).symm.trans hv
  cases e1
  exact ⟨M2, .refl n2.sim, rv.le n2.le⟩
theorem i_str (ha : PE X a (tE g W fa)) : PI X tg a (tI g W (iOf asSigns fa)) := by
  refine (pi_str ha).weak fun σ H Q ⟨e, S, M, s, er, q⟩ => ⟨e, S, M, s, er, seqJ q fun x d S1 M1 H1 n1 r1 q1 => ?_⟩
  obtain ⟨ds, hd, q1⟩ := Ret.of_on q1
  cases d with
  | str y =>
    cases hd
    cases r1
    refine ⟨y, rfl, q1 _ M1 H1 (.refl n1.sim) fun M2 H2 S2 i n2 => ⟨fun d hd => ?_, fun hl => ?_⟩⟩
    · rw [List.getElem?_map] at hd
      obtain ⟨c, hc, rfl⟩ := omap hd
      have hc' : y.cps[i]? = some c := by rw [← Array.getElem?_toList]; exact hc
      refine ⟨(Array.getElem?_eq_some_iff.mp hc').1, fun z H3 hz => ?_⟩
      obtain ⟨rfl, c', h1, rfl⟩ := hz
      rw [hc'] at h1
      cases h1
      exact ⟨M2, .refl n2.sim, .str _⟩
    · show y.cps.size ≤ i
      simpa using hl
  | _ => cases hd
def asInt : D → Option Int
  | .int i => some i
  | _ => none
def rngL (lo : Int) : Nat → List D
  | 0 => []
  | n + 1 => .int lo :: rngL (lo + 1) n
theorem rngL_len : ∀ (n : Nat) (lo : Int), (rngL lo n).length = n
  | 0, _ => rfl
  | n + 1, lo => congrArg Nat.succ (rngL_len n (lo + 1))
theorem rngL_get : ∀ (n : Nat) (lo : Int) (i : Nat) (d : D), (rngL lo n)[i]? = some d → i < n ∧ d = .int (lo + i)
  | 0, _, _, _, h => by simp [rngL] at h
  | n + 1, lo, 0, d, h => by simp [rngL] at h; exact ⟨by omega, by simp [← h]⟩
  | n + 1, lo, i + 1, d, h => by
    obtain ⟨h1, h2⟩ := rngL_get n (lo + 1) i d (by simpa [rngL] using h)
    exact ⟨by omega, by rw [h2]; congr 1; omega⟩
def iR1 (fa : Ev) : Av := fun e S => (fa e S).bind fun d S => match d with
  | .int j => if -(2 ^ 62) ≤ j ∧ j < 2 ^ 62 then .ok (rngL 0 j.toNat) S else .bad
  | _ => .bad
theorem jok_rng {M : Mt} {H : Hp} (lo : Int) (n : Nat) : JOk g M H (Itr lo n) (rngL lo n) := fun M2 H2 S2 i n2 => by
  refine ⟨fun d hd => ?_, fun hl => by rw [rngL_len] at hl; exact hl⟩
  obtain ⟨h1, rfl⟩ := rngL_get n lo i d hd
  refine ⟨h1, fun x H3 hy => ?_⟩
  obtain ⟨rfl, rfl⟩ := hy
  exact ⟨M2, .refl n2.sim, .int _⟩
theorem i_r1 {p pos : Pos} (hg : Gl X "range") (hm : X.mg "range" = none) (ha : PE X a (tE g W fa)) (hs : starEach [a] X.env = [(false, eval a X.env)] := by rfl) : PI X tg (.Call (.Name "range" p) [a] [] pos) (tI g W (iR1 fa)) := by
  refine (pi_range1 hg hm (pa_cons ha pa_nil hs) hs).weak fun σ H Q ⟨e, S, M, s, er, q⟩ => ⟨e, S, M, s, er, seqJ q fun x d S1 M1 H1 n1 r1 q1 => ?_⟩
  cases d with
  | int j =>
    obtain ⟨hj, q1⟩ := ifok q1
    cases r1
    exact ⟨j, rfl, hj.1, hj.2, q1 _ M1 H1 (.refl n1.sim) (jok_rng 0 j.toNat)⟩
  | _ => exact (show False from q1).elim
def iR2 (fa fb : Ev) : Av := fun e S => (fa e S).bind fun d S => (fb e S).bind fun d' S => match d, d' with
  | .int i, .int j => if -(2 ^ 62) ≤ i ∧ i < 2 ^ 62 ∧ -(2 ^ 62) ≤ j ∧ j < 2 ^ 62 then .ok (rngL i (j - i).toNat) S else .bad
  | _, _ => .bad
theorem i_r2 {p pos : Pos} (hg : Gl X "range") (hm : X.mg "range" = none) (ha : PE X a (tE g W fa)) (hb : PE X b (tE g W fb)) (hs : starEach [a, b] X.env = [(false, eval a X.env), (false, eval b X.env)] := by rfl) (hs2 : starEach [b] X.env = [(false, eval b X.env)] := by rfl) :
    PI X tg (.Call (.Name "range" p) [a, b] [] pos) (tI g W (iR2 fa fb)) := by
  refine (pi_range2 hg hm (pa_cons ha (pa_cons hb pa_nil hs2) (by rw [hs, hs2])) hs hs2).weak fun σ H Q ⟨e, S, M, s, er, q⟩ => ⟨e, S, M, s, er, seqJ q fun x d S1 M1 H1 n1 r1 q1 => ?_⟩
  refine ⟨e, S1, M1, n1.sim, er.le n1.le, seqJ q1 fun y d' S2 M2 H2 n2 r2 q2 => ?_⟩
  cases d with
  | int i =>
    cases d' with
    | int j =>
      obtain ⟨hj, q2⟩ := ifok q2
      cases r1
      cases r2
      exact ⟨i, j, rfl, hj, q2 _ M2 H2 (.refl n2.sim) (jok_rng i _)⟩
    | _ => exact (show False from q2).elim
  | _ => exact (show False from q2).elim
end
end DL

namespace DL
open PySem PySem.Spec PyProof.Rows L2

section
variable {X : Cx} {g : G} {W : WX} {a b c : Expr} {fa fb fc : Ev} {ft : Tv} {pos : Pos} {tg iter elt : Expr} {fi : Av} {G : Gv}

/-! ### list comprehensions -/
def wipeE (e : Env) : List Nat → Env
  | [] => e
  | v :: vs => (wipeE e vs).set v none
theorem EnvR.wipe {M : Mt} {σ : L2.St} {e : Env} (r : EnvR g M σ e) : ∀ vs : List Nat, EnvR g M (wipe σ vs) (wipeE e vs)
  | [] => r
  | v :: vs => by
    unfold L2.wipe wipeE
    exact (r.wipe vs).drop
def addO (acc : List D) : Option D → List D
  | some y => acc ++ [y]
  | none => acc
def consO (ys : List D) : Option D → List D
  | some y => y :: ys
  | none => ys
/-- one turn: none is what is not kept -/
def lcTurn (G : Gv) (ft : Tv) (fe : Ev) (vs : List Nat) (e0 : Env) (d : D) (S : Sto) : Ret (Option D) := match G d e0 S with
  | none => .bad
  | some r => (ft r.1 r.2).bind fun k S1 => if k = true then (fe r.1 S1).bind fun y S2 => .ok (some y) S2 else .ok none S1
def lcRun (G : Gv) (ft : Tv) (fe : Ev) (vs : List Nat) (e0 : Env) : List D → Sto → Ret (List D)
  | [], S => .ok [] S
  | d :: ds, S => (lcTurn G ft fe vs e0 d S).bind fun o S => (lcRun G ft fe vs e0 ds S).bind fun ys S => .ok (consO ys o) S
def lcNo (r : Ret D) : Ret D := match r with
  | .exc _ _ => .bad
  | r => r
def eLc (fi : Av) (G : Gv) (ft : Tv) (fe : Ev) (vs : List Nat) : Ev := fun e S => (fi e S).bind fun ds S => if ds.length ≤ LN then lcNo ((lcRun G ft fe vs (wipeE e vs) ds S).bind fun ys S => .ok (.lst ys) S) else .bad
theorem noexc {r : Ret D} {K : D → Sto → Prop} {E : Exc → Sto → Prop} (h : (lcNo r).on K E) : (lcNo r).on K fun _ _ => False := by
  cases r with
  | ok a S => exact h
  | exc x S => exact (show False from h).elim
  | bad => exact h
abbrev W0 : WX := fun _ _ _ _ => False
def tYesV : Tv := fun _ S => .ok true S
theorem ts_nil : PTs X [] (tT g W tYesV) := ⟨fun pins s σ H Q I ⟨e, S, M, sm, er, q⟩ => pts_nil.run pins s σ H Q I (kG_here sm (Rl := fun _ a b => a = b) rfl q)⟩
theorem ts_one {c : Expr} (h : PT X c (tT g W ft)) : PTs X [c] (tT g W ft) := pts_one h
theorem wipe_same : ∀ (vs : List Nat) (σ σ' : L2.St), σ'.length = σ.length → (∀ i, i ∉ vs → σ'[i]? = σ[i]?) → wipe σ' vs = wipe σ vs := fun vs σ σ' hl h => by
  refine List.ext_getElem? fun i => ?_
  by_cases hi : i ∈ vs
  · have key : ∀ (τ : L2.St), τ.length = σ.length → (wipe τ vs)[i]? = if i < σ.length then some none else none := by
      intro τ ht
      have gen : ∀ (us : List Nat), i ∈ us → (wipe τ us)[i]? = if i < σ.length then some none else none := by
        intro us
        induction us with
        | nil => intro z; cases z
        | cons v us ih =>
          intro z
          unfold L2.wipe
          by_cases hv : v = i
          · subst hv
            by_cases hlt : v < σ.length
            · rw [if_pos hlt, List.getElem?_set_self (by rw [wipe_length, ht]; exact hlt)]
            · rw [if_neg hlt, List.getElem?_eq_none_iff.mpr (by rw [List.length_set, wipe_length, ht]; omega)]
          · rw [List.getElem?_set_ne hv]
            rcases List.mem_cons.mp z with z | z
            · exact absurd z.symm hv
            · exact ih z
      exact gen vs hi
    rw [key σ' hl, key σ rfl]
  · have gen : ∀ (τ : L2.St) (us : List Nat), i ∉ us → (wipe τ us)[i]? = τ[i]? := by
      intro τ us
      induction us with
      | nil => intro _; rfl
      | cons v us ih =>
        intro z
        unfold L2.wipe
        rw [List.getElem?_set_ne fun e => z (by rw [e]; exact List.mem_cons_self)]
        exact ih fun y => z (List.mem_cons_of_mem _ y)
    rw [gen σ' vs hi, gen σ vs hi]
    exact h i hi
theorem mem_not {M : Mt} {H : Hp} {S : Sto} {D0 : Addr} (s : Sim g M H S) (h : H D0 = none) : D0 ∉ M.m ∧ M.I D0 = none := by
  refine ⟨fun z => ?_, ?_⟩
  · obtain ⟨o, e⟩ := s.ex D0 z
    rw [h] at e; cases e
  · cases e : M.I D0 with
    | none => rfl
    | some o => rw [s.im _ _ e] at h; cases h
/-- an object that no tree speaks of is laid, or changed -/
theorem Sim.off {M : Mt} {H : Hp} {S : Sto} {D0 : Addr} {o : HO} (s : Sim g M H S) (h1 : D0 ∉ M.m) (h2 : M.I D0 = none) (h3 : (∀ ps, H D0 ≠ some (.tbl ps)) ∧ ∀ c q, H D0 ≠ some (LamX.CodeO c q)) : Sim g M (upd H D0 o) S := by
  have ne : ∀ a ∈ M.m, a ≠ D0 := fun a ha z => h1 (z ▸ ha)
  refine ⟨s.len, s.nd, fun a u e => ?_, fun a ha => ?_, fun l a mo e1 e2 e3 => ?_, tabs_at s.tb h3.1 (fun _ _ h => h), s.nt, s.tm⟩
  · rw [upd_ne fun z => by rw [z, h2] at e; cases e]; exact s.im _ _ e
  · obtain ⟨u, e⟩ := s.ex a ha
    exact ⟨u, by rw [upd_ne (ne a ha)]; exact e⟩
  · obtain ⟨q1, q2⟩ := s.lv l a mo e1 e2 e3
    have ha := List.mem_of_getElem? e1
    exact ⟨q1, q2.le (.refl _) fun u e => by rw [upd_ne (ne a ha)]; exact e⟩
theorem kd_none {H : Hp} {a : Addr} (h : H a = none) : (∀ ps, H a ≠ some (.tbl ps)) ∧ ∀ c q, H a ≠ some (LamX.CodeO c q) := ⟨fun _ z => (by rw [h] at z; cases z), fun _ _ z => (by rw [h] at z; cases z)⟩
theorem kd_lst {H : Hp} {a : Addr} {vs : List V} (h : H a = some (.lst vs)) : (∀ ps, H a ≠ some (.tbl ps)) ∧ ∀ c q, H a ≠ some (LamX.CodeO c q) := ⟨fun _ z => (by rw [h] at z; (have z := Option.some.inj z; cases z)), fun _ _ z => (by rw [h] at z; (have z := Option.some.inj z; unfold LamX.CodeO at z; cases z))⟩
theorem Nxt.away {M M' : Mt} {H H' : Hp} {S' : Sto} {D0 : Addr} {o : HO} (n : Nxt g M H S' M' H') (h : H D0 = some o) (h1 : D0 ∉ M.m) (h2 : M.I D0 = none) (ht : ∀ ps, o ≠ .tbl ps := by intro _ z; cases z) : H' D0 = some o ∧ D0 ∉ M'.m ∧ M'.I D0 = none := by
  refine ⟨n.frN h h1 ht, fun z => ?_, ?_⟩
  · rcases n.nm _ z with z | z
    · exact h1 z
    · rw [h] at z; cases z
  · cases e : M'.I D0 with
    | none => rfl
    | some u =>
      rcases n.nI _ _ e with z | z | z
      · rw [h2] at z; cases z
      · exact absurd z h1
      · rw [h] at z; cases z
/-- a later state, with the changed object of ours aside -/
theorem Nxt.offR {M M' : Mt} {H H' : Hp} {S' : Sto} {D0 : Addr} {o : HO} (n : Nxt g M H S' M' H') (h : H D0 = none) (h1 : D0 ∉ M'.m) (h2 : M'.I D0 = none) (h3 : (∀ ps, H' D0 ≠ some (.tbl ps)) ∧ ∀ c q, H' D0 ≠ some (LamX.CodeO c q)) : Nxt g M H S' M' (upd H' D0 o) :=
  ⟨n.le, fun a u e m => by rw [upd_ne (ne_of_none e h)]; exact n.fr a u e m, n.nm, n.nI, n.sim.off h1 h2 h3⟩
theorem OffS.wipe {vs ws : List Nat} {σ σ' : L2.St} (o : OffS vs (L2.wipe σ ws) σ') (h : ∀ i ∈ vs, i ∈ ws) : L2.wipe σ' ws = L2.wipe σ ws := by
  have e1 : L2.wipe (L2.wipe σ ws) ws = L2.wipe σ ws := wipe_same ws σ _ (wipe_length _ _) fun i hi => wipe_out hi
  have e2 : L2.wipe σ' ws = L2.wipe (L2.wipe σ ws) ws := wipe_same ws _ σ' o.1 fun i hi => o.2 i fun z => hi (h i z)
  exact e2.trans e1
/-- what is wanted of the rest of a comprehension, from a list made so far -/
def lcEnd (G : Gv) (ft : Tv) (fe : Ev) (vs : List Nat) (e0 : Env) (acc : List D) (ds : List D) (S : Sto) : Ret D := lcNo ((lcRun G ft fe vs e0 ds S).bind fun ys S => .ok (.lst (acc ++ ys)) S)
theorem lcEnd_cons {G : Gv} {ft : Tv} {fe : Ev} {vs : List Nat} {e0 : Env} {acc : List D} {d : D} {ds : List D} {S : Sto} {K : D → Sto → Prop} (h : (lcEnd G ft fe vs e0 acc (d :: ds) S).on K fun _ _ => False) :
    (lcTurn G ft fe vs e0 d S).on (fun o S1 => (lcEnd G ft fe vs e0 (addO acc o) ds S1).on K fun _ _ => False) fun _ _ => False := by
  unfold lcEnd lcRun at h
  unfold lcEnd
  cases e1 : lcTurn G ft fe vs e0 d S with
  | bad => rw [e1] at h; exact h
  | exc x S1 => rw [e1] at h; exact h
  | ok o S1 =>
    rw [e1] at h
    show (lcNo ((lcRun G ft fe vs e0 ds S1).bind fun ys S => .ok (.lst ((addO acc o) ++ ys)) S)).on K fun _ _ => False
    cases e2 : lcRun G ft fe vs e0 ds S1 with
    | bad => simp only [Ret.bind, e2] at h; exact h
    | exc x S2 => simp only [Ret.bind, e2] at h; exact h
    | ok ys S2 =>
      simp only [Ret.bind, e2] at h
      cases o with
      | none => exact h
      | some y =>
        show K (.lst ((acc ++ [y]) ++ ys)) S2
        rw [List.append_assoc]
        exact h
/-- the reading of a comprehension -/
theorem w_lc {fi : Av} {ft : Tv} {fe : Ev} {us vs : List Nat} (hus : ∀ i ∈ us, i ∈ vs) {σ : L2.St} {H : Hp} {Q : VK} (h : tE g W (eLc fi G ft fe vs) σ H Q) :
    tLc (tI g W fi) (tGv g us G) (tT g W0 ft) (tE g W0 fe) vs σ H Q := by
  obtain ⟨e, S, M, s, er, q⟩ := h
  refine ⟨e, S, M, s, er, Ret.on_mono (Ret.on_bind q) (fun ds S1 q1 J M1 H1 n1 hJ => ?_) fun _ _ z => z⟩
  obtain ⟨hlen, q1⟩ := ifok q1
  have q1 := noexc q1
  intro D0 hD0
  obtain ⟨f1, f2⟩ := mem_not n1.sim hD0
  refine ⟨fun i m H2 => ∃ (S2 : Sto) (M2 : Mt) (vsV : List V) (acc : List D), Nxt g M1 H1 S2 M2 H2 ∧ H2 D0 = some (.lst vsV) ∧ D0 ∉ M2.m ∧ M2.I D0 = none ∧ Reps g M2 vsV acc ∧ acc.length ≤ i ∧ m = ds.length - i ∧
    (lcEnd G ft fe vs (wipeE e vs) acc (ds.drop i) S2).on (kE g M H Q) fun _ _ => False, ⟨ds.length, S1, M1, [], [], (Nxt.refl n1.sim).offR hD0 f1 f2 (kd_none hD0), upd_same, f1, f2, .nil, Nat.le_refl _, by simp, ?_⟩, ?_⟩
  · simpa [lcEnd] using q1
  rintro i m H2 ⟨S2, M2, vsV, acc, n2, hd2, g1, g2, ra, hacc, rfl, q2⟩
  obtain ⟨j1, j2⟩ := hJ M2 H2 S2 i n2
  cases hd : ds[i]? with
  | none =>
    have hl : ds.length ≤ i := List.getElem?_eq_none_iff.mp hd
    refine .inl ⟨j2 hl, ?_⟩
    rw [List.drop_of_length_le hl] at q2
    have q3 : kE g M H Q (.lst acc) S2 := by simpa [lcEnd, lcRun, Ret.bind, lcNo, Ret.on] using q2
    have le : M2.Le ⟨upd M2.I D0 (.lst vsV), M2.m⟩ := ⟨fun b u z => by
      show upd M2.I D0 _ b = _
      rw [upd_ne fun y => by rw [y, g2] at z; cases z]; exact z, [], by simp⟩
    have nn : Nxt g M1 H1 S2 ⟨upd M2.I D0 (.lst vsV), M2.m⟩ H2 := by
      refine ⟨n2.le.trans le, n2.fr, n2.nm, fun b u z => ?_, ⟨n2.sim.len, n2.sim.nd, fun b u z => ?_, n2.sim.ex, fun l b mo z1 z2 z3 => ?_, n2.sim.tb.le le.I, fun b ps z => ?_, n2.sim.tm⟩⟩
      · have z : upd M2.I D0 (.lst vsV) b = some u := z
        by_cases y : b = D0
        · exact .inr (.inr (y ▸ hD0))
        · rw [upd_ne y] at z; exact n2.nI b u z
      · have z : upd M2.I D0 (.lst vsV) b = some u := z
        by_cases y : b = D0
        · subst y; rw [upd_same] at z; cases z; exact hd2
        · rw [upd_ne y] at z; exact n2.sim.im b u z
      · obtain ⟨p1, p2⟩ := n2.sim.lv l b mo z1 z2 z3
        refine ⟨?_, p2.le le fun u z => z⟩
        show upd M2.I D0 (.lst vsV) b = none
        rw [upd_ne fun y => g1 (by rw [← y]; exact List.mem_of_getElem? z1)]; exact p1
      · have z : upd M2.I D0 (.lst vsV) b = some (.tbl ps) := z
        by_cases y : b = D0
        · subst y; rw [upd_same] at z; cases z
        · rw [upd_ne y] at z; exact n2.sim.nt b ps z
    exact q3 _ _ _ (n1.trans nn) (.lst (show upd M2.I D0 _ D0 = _ from upd_same) (ra.le le))
  | some d =>
    obtain ⟨go, yl⟩ := j1 d hd
    have hl : i < ds.length := (List.getElem?_eq_some_iff.mp hd).1
    rw [drop_cons hd] at q2
    have q2 := lcEnd_cons q2
    refine .inr ⟨go, fun H3 => ∃ (S3 : Sto) (M3 : Mt) (vsV : List V) (acc : List D), Nxt g M1 H1 S3 M3 H3 ∧ H3 D0 = some (.lst vsV) ∧ D0 ∉ M3.m ∧ M3.I D0 = none ∧ Reps g M3 vsV acc ∧ acc.length ≤ i + 1 ∧
      (lcEnd G ft fe vs (wipeE e vs) acc (ds.drop (i + 1)) S3).on (kE g M H Q) fun _ _ => False, fun H3 ⟨S3, M3, v3, a3, h1, h2, h3, h4, h5, h6, h7⟩ => ⟨ds.length - (i + 1), by omega, S3, M3, v3, a3, h1, h2, h3, h4, h5, h6, rfl, h7⟩, fun x H3 hy => ?_⟩
    obtain ⟨M3, n3, r3⟩ := yl x H3 hy
    unfold lcTurn at q2
    cases hG : G d (wipeE e vs) S2 with
    | none => rw [hG] at q2; exact (show False from q2).elim
    | some p =>
      rw [hG] at q2
      dsimp only at q2
      have er3 : EnvR g M3 (L2.wipe σ vs) (wipeE e vs) := (((er.le n1.le).le n2.le).le n3.le).wipe vs
      refine ⟨d, wipeE e vs, S2, M3, p, n3.sim, er3, r3, hG, fun σ4 M4 H4 n4 er4 o4 => ⟨o4.wipe hus, ?_⟩⟩
      have n34 := n3.trans n4
      have q2 := Ret.on_bind q2
      refine ⟨p.1, p.2, M4, n4.sim, er4, Ret.on_mono q2 (fun k S5 q5 k' M5 H5 n5 ek => ?_) fun _ _ z => z.elim⟩
      subst ek
      have n35 := n34.trans n5
      cases k' with
      | false =>
        rw [if_neg Bool.false_ne_true] at q5 ⊢
        obtain ⟨a1, a2, a3⟩ := n35.away hd2 g1 g2
        exact ⟨S5, M5, vsV, acc, n2.trans n35, a1, a2, a3, ra.le n35.le, by omega, q5⟩
      | true =>
        rw [if_pos rfl] at q5 ⊢
        have q5 := Ret.on_bind q5
        refine ⟨p.1, S5, M5, n5.sim, er4.le n5.le, Ret.on_mono q5 (fun y S6 q6 v6 M6 H6 n6 r6 => ?_) fun _ _ z => z.elim⟩
        have n36 := n35.trans n6
        obtain ⟨a1, a2, a3⟩ := n36.away hd2 g1 g2
        have hlen2 : vsV.length = acc.length := ra.len
        have hL : LN ≤ sizeLine := line_LN
        refine ⟨vsV, a1, by omega, S6, M6, vsV ++ [v6], acc ++ [y], (n2.trans n36).offR hD0 a2 a3 (kd_lst a1), upd_same, a2, a3, (ra.le n36.le).app (.cons r6 .nil), by simp; omega, q6⟩
theorem d_lc {us : List Nat} {scope : Scope} {own : List (Str × Nat)} {ifs : List Expr} {fe : Ev} (hc : X.calm = true) (hN : X.N.Nodup) (hi : PI X tg iter (tI g W fi)) (ok : BlkOk X.N X.env.scope scope own)
    (hg : ∀ (s : Shared) (H : Hp) (C : Addr) (cl : List (Str × Addr)) (fp : List Addr), PG (X.blk s H scope (compEnvC scope cl C X.env) fp) tg (tGv g us G)) (ht : ∀ (s : Shared) (H : Hp) (C : Addr) (cl : List (Str × Addr)) (fp : List Addr), PTs (X.blk s H scope (compEnvC scope cl C X.env) fp) ifs (tT g W0 ft))
    (he : ∀ (s : Shared) (H : Hp) (C : Addr) (cl : List (Str × Addr)) (fp : List Addr), PE (X.blk s H scope (compEnvC scope cl C X.env) fp) elt (tE g W0 fe)) (hus : ∀ i ∈ us, i ∈ own.map (·.2)) (hs : ∀ x, foldedSetIterable iter X.env x = pure x := by intro _; rfl) :
    PE X (.ListComp elt [⟨tg, iter, ifs, 0⟩] scope pos) (tE g W (eLc fi G ft fe (own.map (·.2)))) :=
  (pe_lc hc hN hi ok hg ht he hs).weak fun _ _ _ h => w_lc hus h
theorem s_setLc {us : List Nat} {i : Nat} {y : Str} {py : Pos} {ifs : List Expr} {scope : Scope} {own : List (Str × Nat)} {spos : Pos} {fe : Ev} (hc : X.calm = true) (hN : X.N.Nodup) (hy : X.N[i]? = some y) (hyl : X.env.scope.names.lookup y = some .local)
    (hsw : swapsWith (.ListComp elt [⟨tg, iter, ifs, 0⟩] scope pos) (some (.Name y py)) spos.line X.env = pure true) (hi : PI X tg iter (tI g W fi)) (ok : BlkOk X.N X.env.scope scope own)
    (hg : ∀ (s : Shared) (H : Hp) (C : Addr) (cl : List (Str × Addr)) (fp : List Addr), PG (X.blk s H scope (compEnvC scope cl C X.env) fp) tg (tGv g us G)) (ht : ∀ (s : Shared) (H : Hp) (C : Addr) (cl : List (Str × Addr)) (fp : List Addr), PTs (X.blk s H scope (compEnvC scope cl C X.env) fp) ifs (tT g W0 ft))
    (he : ∀ (s : Shared) (H : Hp) (C : Addr) (cl : List (Str × Addr)) (fp : List Addr), PE (X.blk s H scope (compEnvC scope cl C X.env) fp) elt (tE g W0 fe)) (hus : ∀ i ∈ us, i ∈ own.map (·.2)) (hs : ∀ x, foldedSetIterable iter X.env x = pure x := by intro _; rfl) :
    PS X (.Assign [.Name y py] (.ListComp elt [⟨tg, iter, ifs, 0⟩] scope pos) spos) (tS g W (sSet i (eLc fi G ft fe (own.map (·.2))))) := by
  refine (ps_setLc hc hN hy hyl hsw hi ok hg ht he hs).weak fun D σ H ⟨e, S, M, s, er, q⟩ => ?_
  refine w_lc hus ⟨e, S, M, s, er, seqS er q fun v d S1 M1 H1 n r er1 q1 => ?_⟩
  exact q1 _ M1 H1 (.refl n.sim) (er1.set r)
end
end DL

namespace DL
open PySem PySem.Spec PyProof.Rows L2

/-! ### defs -/
/-- what a def does, as a function -/
abbrev Fn := List D → Sto → Ret D
/-- a def's promise: it does what the function says -/
def spF (g : G) (n : Nat) (m : Fn) : Sp := fun vs H Q E => ∃ (ds : List D) (S : Sto) (M : Mt), ds.length = n ∧ Sim g M H S ∧ Reps g M vs ds ∧
  (m ds S).on (kE g M H Q) fun x S' => ∀ cls od M' H', Nxt g M H S' M' H' → ExR g M' cls od x → E cls od H'
/-- the body's slots at the start, its end -/
def start0 (k : Nat) (ds : List D) : Env := ds.map some ++ List.replicate (k - ds.length) none
def runB (k : Nat) (f : Sv) : Fn := fun ds S => match f (start0 k ds) S with
  | .nx _ S => .ok .non S
  | .rt d S => .ok d S
  | .exc x _ S => .exc x S
  | _ => .bad
section
variable {P : Program} {w : World} {K : PySem.W.Frag} {mg : Str → Option Value} {base : Heap} {g : G}
theorem EnvR.start {M : Mt} {vs : List V} {ds : List D} (N : List Str) (r : Reps g M vs ds) : EnvR g M (start N vs) (start0 N.length ds) := by
  refine ⟨by unfold L2.start start0; simp [r.len], fun i d h => ?_⟩
  unfold start0 at h
  unfold L2.start
  by_cases hi : i < ds.length
  · rw [List.getElem?_append_left (by simpa using hi), List.getElem?_map] at h
    obtain ⟨d', hd, e⟩ := omap h
    cases e
    obtain ⟨v, hv, rv⟩ := r.getV hd
    exact ⟨v, by rw [List.getElem?_append_left (by simp [r.len]; exact hi), List.getElem?_map, hv]; rfl, rv⟩
  · rw [List.getElem?_append_right (by simp; omega), List.getElem?_replicate] at h
    split at h <;> cases h
theorem run_body {W : WX} {N : List Str} {f : Sv} {vs : List V} {ds : List D} {S : Sto} {M : Mt} {H : Hp} {Q : VK} {E : XK} (s : Sim g M H S) (r : Reps g M vs ds) (hW : ∀ cls od σ H', E cls od H' → W cls od σ H')
    (q : (runB N.length f ds S).on (kE g M H Q) fun x S' => ∀ cls od M' H', Nxt g M H S' M' H' → ExR g M' cls od x → E cls od H') :
    tS g W f { nx := fun _ H' => Q .non H', rt := Q } (start N vs) H := by
  refine ⟨start0 N.length ds, S, M, s, EnvR.start N r, ?_⟩
  unfold runB at q
  cases h : f (start0 N.length ds) S with
  | nx e S' => rw [h] at q; exact fun σ M' H' n _ => q .non M' H' n .non
  | rt d S' => rw [h] at q; exact q
  | exc x e S' => rw [h] at q; exact fun cls od σ M' H' n rx _ => hW _ _ _ _ (q cls od M' H' n rx)
  | bk e S' => rw [h] at q; exact q.elim
  | ct e S' => rw [h] at q; exact q.elim
  | bad => rw [h] at q; exact q.elim
/-- THE RULE for a def: it does what its body's function says -/
theorem Fun_ok {x qual : Str} {st : Stmt} {f : Addr} {fd : FuncData} {N ps : List Str} {k : Nat} {fb : Sv} (F : Fun K x qual st f fd) (S : FnScope N ps (defScope st))
    (hbody : ∀ (cdv : Value) (A : Around) (outer : List PySem.Env) (s : Shared) (H : Hp) (E : XK), Room k (A.deeper (envOfC qual (defScope st) s.heap.objs.size f cdv)) →
      PSs (cxOf (L2.CX P w) P w K mg base N qual (defScope st) f cdv A outer s H E) (defBody st) (tS g (fun cls d _ H => E cls d H) fb)) :
    FnOk P w K mg base (L2.CX P w) (k + 1) f fd ps (spF g ps.length (runB N.length fb)) := by
  refine F.okX S (fun vs H Q E ⟨ds, S, M, hl, _, r, _⟩ => by rw [r.len, hl]) fun cdv A outer s H vs Q E hr ⟨ds, S0, M, hl, sm, r, q⟩ => ?_
  exact ⟨_, hbody cdv A outer s H E hr, run_body sm r (fun _ _ _ _ z => z) q⟩
theorem FunD_ok {x qual : Str} {params : Arguments} {body : List Stmt} {scope : Scope} {dvs : List V} {kws : List (Str × V)} {f : Addr} {fd : FuncData} {N ps : List Str} {k : Nat} {fb : Sv} (F : FunD K x qual params body scope dvs kws f fd) (S : FnScope N ps scope)
    (hbody : ∀ (cdv : Value) (A : Around) (outer : List PySem.Env) (s : Shared) (H : Hp) (E : XK), Room k (A.deeper (envOfC qual scope s.heap.objs.size f cdv)) →
      PSs (cxOf (L2.CX P w) P w K mg base N qual scope f cdv A outer s H E) body (tS g (fun cls d _ H => E cls d H) fb)) :
    FnOk P w K mg base (L2.CX P w) (k + 1) f fd ps (spF g ps.length (runB N.length fb)) := by
  refine F.ok S (fun vs H Q E ⟨ds, S, M, hl, _, r, _⟩ => by rw [r.len, hl]) fun cdv A outer s H vs Q E hr ⟨ds, S0, M, hl, sm, r, q⟩ => ?_
  exact ⟨_, hbody cdv A outer s H E hr, run_body sm r (fun _ _ _ _ z => z) q⟩
end

section
variable {X : Cx} {g : G} {W : WX} {a b c e o : Expr} {es : List Expr} {fa fb fc : Ev} {fr : Av} {pos p : Pos} {x : Str} {k : Nat} {f : Addr} {fd : FuncData} {ps : List Str} {n : Nat} {m : Fn}
theorem Reps.appR {M : Mt} {vs ws : List V} {ds es : List D} (a : Reps g M vs ds) (b : Reps g M ws es) : Reps g M (vs ++ ws) (ds ++ es) := a.app b
/-- a call of a def of the text: the defaults dds fill up -/
def eCall (n : Nat) (m : Fn) (dds : List D) (fr : Av) : Ev := fun e S => (fr e S).bind fun ds S => if (ds ++ dds).length = n then m (ds ++ dds) S else .bad
theorem w_call {dvs : List V} {dds : List D} (hdd : ∀ M, Reps g M dvs dds) {σ : L2.St} {H : Hp} {Q : VK} {ta : TA} (h : tE g W (eCall n m dds fr) σ H Q) : tA g W fr σ H fun vs H1 => spF g n m (vs ++ dvs) H1 Q (WE W σ) := by
  obtain ⟨e, S, M, s, er, q⟩ := h
  refine ⟨e, S, M, s, er, seqG q fun vs ds S1 M1 H1 n1 r1 q1 => ?_⟩
  obtain ⟨hl, q1⟩ := ifok q1
  exact ⟨_, S1, M1, hl, n1.sim, r1.app (hdd M1), Ret.on_mono q1 (fun _ _ z => z) fun x S2 z cls od M' H' n' rx => z cls od M' H' n' rx⟩
theorem d_call {dvs : List V} {ds : List Value} {dds : List D} (F : FnOk X.prog X.w X.K X.mg X.base (L2.CX X.prog X.w) k f fd ps (spF g n m)) (hr : Room k X.A) (hg : Gl X x) (hm : X.mg x = some (.ref f)) (hk : PySem.W.keepIn X.K (.ref f) = true) (hb : Binds X.K fd ps ds) (hd : Vals dvs ds)
    (hdd : ∀ M, Reps g M dvs dds) (tk : Takes X W) (ha : PA X (e :: es) (tA g W fr)) (hdb : (x == ("__debug__" : Str)) = false := by decide) (he : starEach (e :: es) X.env = (false, eval e X.env) :: starEach es X.env := by rfl) (hpl : (backTo pos (starEach es X.env)).any (·.1) = false := by rfl) :
    PE X (.Call (.Name x p) (e :: es) [] pos) (tE g W (eCall n m dds fr)) :=
  (pe_callSD F hr hg hm hk hb hd (passAt tk) ha hdb he hpl).weak fun _ _ _ h => w_call (ta := tA g W fr) hdd h
theorem d_call0 {dvs : List V} {ds : List Value} {dds : List D} (F : FnOk X.prog X.w X.K X.mg X.base (L2.CX X.prog X.w) k f fd ps (spF g n m)) (hr : Room k X.A) (hg : Gl X x) (hm : X.mg x = some (.ref f)) (hk : PySem.W.keepIn X.K (.ref f) = true) (hb : Binds X.K fd ps ds) (hd : Vals dvs ds)
    (hdd : ∀ M, Reps g M dvs dds) (tk : Takes X W) (hdb : (x == ("__debug__" : Str)) = false := by decide) : PE X (.Call (.Name x p) [] [] pos) (tE g W (eCall n m dds aNil)) := by
  refine ⟨fun pins s σ H Q I h => ?_⟩
  have h2 := w_call (ta := tA g W aNil) hdd h
  refine wpAny_Call_Name_kw (ld_glob I hg hm ?_ hdb)
  refine PySem.W.callWith_K0 I.kIn hk ?_
  obtain ⟨e, S, M, sm, er, q⟩ := h2
  exact run_fnSD (us := []) F hr hb hd (passAt tk σ) I .nil (q [] M H (.refl sm) .nil)
/-- with keywords: gV puts the values into the parameters' order -/
def eCallK (n : Nat) (m : Fn) (gD : List D → List D → List D) (fr fk : Av) : Ev := fun e S => (fr e S).bind fun ds S => (fk e S).bind fun zs S => if (gD ds zs).length = n then m (gD ds zs) S else .bad
theorem dk_nil : PK X [] (tA g W aNil) := ⟨fun pos pins s σ H Q I ⟨e, S, M, sm, er, q⟩ => pk_nil.run pos pins s σ H Q I (kG_here sm .nil q)⟩
theorem dk_cons {nm : Option Str} {kpos : Pos} {kws : List Keyword} {fk : Av} (ha : PE X a (tE g W fa)) (hr : PK X kws (tA g W fk)) : PK X (⟨nm, a, kpos⟩ :: kws) (tA g W (aCons fa fk)) := by
  refine ⟨fun pos pins s σ H Q I ⟨e, S, M, sm, er, q⟩ => (pk_cons ha hr).run pos pins s σ H Q I ⟨e, S, M, sm, er, seqG q fun x d S1 M1 H1 n1 r1 q1 => ?_⟩⟩
  refine ⟨e, S1, M1, n1.sim, er.le n1.le, seqG q1 fun xs ds S2 M2 H2 n2 r2 q2 => ?_⟩
  exact kG_here n2.sim (.cons (r1.le n2.le) r2) q2
/-! ### built-in functions by values -/
def eCB (fo : FL) (fr : Av) : Ev := fun e S => (fr e S).bind fun ds S => Ret.of (fo ds S) S
theorem w_CB {fo : FL} {σ : L2.St} {H : Hp} {Q : VK} (h : tE g W (eCB fo fr) σ H Q) : tCB (rFL g fo) (tA g W fr) σ H Q := by
  obtain ⟨e, S, M, s, er, q⟩ := h
  refine ⟨e, S, M, s, er, seqG q fun vs ds S1 M1 H1 n1 r1 q1 => ?_⟩
  obtain ⟨d, hd, q2⟩ := Ret.of_on q1
  exact ⟨ds, S1, M1, d, n1.sim, r1, hd, q2⟩
theorem d_callB {id : String} {fo : FL} (hc : CallR X (.builtin id) (rFL g fo)) (hg : Gl X x) (hm : X.mg x = none) (hv : bootBuiltins x = some (.builtin id)) (ha : PA X (e :: es) (tA g W fr)) (hn : x ≠ "__name__" := by decide) (hdb : (x == ("__debug__" : Str)) = false := by decide)
    (he : starEach (e :: es) X.env = (false, eval e X.env) :: starEach es X.env := by rfl) (hpl : (backTo pos (starEach es X.env)).any (·.1) = false := by rfl) : PE X (.Call (.Name x p) (e :: es) [] pos) (tE g W (eCB fo fr)) :=
  (pe_callB hc hg hm hv ha hn hdb he hpl).weak fun _ _ _ h => w_CB h
theorem d_callT {T : String} {fo : FL} (hc : CallR X (.type T) (rFL g fo)) (hg : Gl X x) (hm : X.mg x = none) (hv : bootBuiltins x = some (.type T)) (ha : PA X (e :: es) (tA g W fr)) (hn : x ≠ "__name__" := by decide) (hdb : (x == ("__debug__" : Str)) = false := by decide)
    (he : starEach (e :: es) X.env = (false, eval e X.env) :: starEach es X.env := by rfl) (hpl : (backTo pos (starEach es X.env)).any (·.1) = false := by rfl) : PE X (.Call (.Name x p) (e :: es) [] pos) (tE g W (eCB fo fr)) :=
  (pe_callTy hc hg hm hv ha hn hdb he hpl).weak fun _ _ _ h => w_CB h
def fLen : FL := fun ds S => match ds with
  | [x] => match der S x with
    | .str y => if y.length ≤ LN then some (.int y.length) else none
    | .tup xs => some (.int xs.length)
    | .lst xs => some (.int xs.length)
    | .dct xs => some (.int xs.length)
    | _ => none
  | _ => none
theorem Reps.one {M : Mt} {vs : List V} {d : D} (r : Reps g M vs [d]) : ∃ v, vs = [v] ∧ Rep g M v d := by
  cases r with
  | cons a b => cases b; exact ⟨_, rfl, a⟩
theorem Reps.two {M : Mt} {vs : List V} {d d' : D} (r : Reps g M vs [d, d']) : ∃ v v', vs = [v, v'] ∧ Rep g M v d ∧ Rep g M v' d' := by
  cases r with
  | cons a b =>
    cases b with
    | cons b c => cases c; exact ⟨_, _, rfl, a, b⟩
theorem RepK.len {M : Mt} : ∀ {vs : List (Key × V)} {ds : List (D × D)}, RepK g M vs ds → vs.length = ds.length
  | _, _, .nil => rfl
  | _, _, .cons _ t => congrArg Nat.succ (RepK.len t)
theorem RepT.len {M : Mt} : ∀ {vs : List (List Key × V)} {ds : List (D × D)}, RepT g M vs ds → vs.length = ds.length
  | _, _, .nil => rfl
  | _, _, .cons _ t => congrArg Nat.succ (RepT.len t)
/-- the value's kind by what is tracked -/
theorem rep_str' {M : Mt} {v : V} {i : Str} (r : Rep g M v (.str i)) : v = .str i := by cases r; rfl
theorem lenD {M : Mt} {H : Hp} {S : Sto} {v : V} {d : D} {ds : List (D × D)} (s : Sim g M H S) (r : Rep g M v d) (e : der S d = .dct ds) :
    ∃ a, v = .ref a ∧ ((∃ kvs, H a = some (.dK kvs) ∧ RepK g M kvs ds) ∨ ∃ kvs, H a = some (.dT kvs) ∧ RepT g M kvs ds) := by
  cases d with
  | dct xs =>
    cases e
    cases r with
    | dK a b => exact ⟨_, rfl, .inl ⟨_, s.im _ _ a, b⟩⟩
    | dT a b => exact ⟨_, rfl, .inr ⟨_, s.im _ _ a, b⟩⟩
  | loc l =>
    obtain ⟨mo, h1, h2, h3⟩ := der_loc e (fun k z => nomatch z)
    obtain ⟨a, rfl, hl⟩ := r.at_loc
    obtain ⟨_, q⟩ := s.lv l a mo hl h1 h2
    cases q with
    | lst h r => cases h3
    | dK h r => cases h3; exact ⟨_, rfl, .inl ⟨_, h, r⟩⟩
    | dT h r => cases h3; exact ⟨_, rfl, .inr ⟨_, h, r⟩⟩
    | ins h r => cases h3
  | _ => cases e
theorem o_len (hK : g.K = X.K) : CallR X (.builtin "len") (rFL g fLen) := by
  refine CallR.weak (CallR.or (call_len (X := X)) (CallR.or (call_lenD (X := X)) (call_len_dT (X := X)))) fun xs H Q ⟨ds, S, M, d, s, r, hf, q⟩ => ?_
  unfold fLen at hf
  split at hf
  · rename_i x
    obtain ⟨v, rfl, rv⟩ := r.one
    split at hf
    · rename_i y e
      obtain ⟨hl, rfl⟩ := ite_some hf
      exact .inl ⟨v, y.length, rfl, by rw [s.strL rv e]; exact ⟨Nat.le_trans hl line_LN, rfl⟩, kG_here s (Rep.int _) q⟩
    · rename_i ys e
      cases hf
      obtain ⟨a, vs, rfl, h, r1⟩ := s.tupL rv e
      exact .inl ⟨_, ys.length, rfl, .inr ⟨vs, hK ▸ h, r1.len.symm⟩, kG_here s (Rep.int _) q⟩
    · rename_i ys e
      cases hf
      obtain ⟨a, vs, rfl, h, r1⟩ := s.lstL rv e
      exact .inl ⟨_, ys.length, rfl, .inl ⟨vs, .inl (.inl h), r1.len.symm⟩, kG_here s (Rep.int _) q⟩
    · rename_i ys e
      cases hf
      obtain ⟨a, rfl, h⟩ := lenD s rv e
      rcases h with ⟨kvs, h, r1⟩ | ⟨kvs, h, r1⟩
      · exact .inr (.inl ⟨a, kvs, rfl, h, by rw [r1.len]; exact kG_here s (Rep.int _) q⟩)
      · exact .inr (.inr ⟨a, kvs, rfl, h, by rw [r1.len]; exact kG_here s (Rep.int _) q⟩)
    · cases hf
  · cases hf
/-! ### isinstance of a built-in type -/
inductive Ty where
  | int | bool | str | tuple | list | dict
  deriving DecidableEq
def Ty.nm : Ty → String
  | .int => "int"
  | .bool => "bool"
  | .str => "str"
  | .tuple => "tuple"
  | .list => "list"
  | .dict => "dict"
/-- the kind's own name -/
def kdN : D → String
  | .non => "NoneType"
  | .bl _ => "bool"
  | .int _ => "int"
  | .str _ => "str"
  | .tup _ => "tuple"
  | .lst _ => "list"
  | .frz _ => "list"
  | .dct _ => "dict"
  | _ => ""
def isK (T : Ty) (d : D) : Option Bool := match d with
  | .non => some false
  | .bl _ => some (match T with | .bool => true | .int => true | _ => false)
  | .int _ => some (match T with | .int => true | _ => false)
  | .str _ => some (match T with | .str => true | _ => false)
  | .tup _ => some (match T with | .tuple => true | _ => false)
  | .lst _ => some (match T with | .list => true | _ => false)
  | .frz _ => some (match T with | .list => true | _ => false)
  | .dct _ => some (match T with | .dict => true | _ => false)
  | _ => none
def isKs (d : D) : List Ty → Option Bool
  | [] => some false
  | T :: Ts => (isK T d).bind fun b => if b = true then some true else isKs d Ts
theorem kit_isK {K : PySem.W.Frag} {T : Ty} {d : D} {b : Bool} (h : isK T d = some b) : PySem.W.kitOne K (.type (kdN d)) (.type T.nm) = some b := by
  cases d with
  | non => cases T <;> (cases h; exact kit_ty (show kitB "NoneType" _ = some _ by decide +kernel))
  | bl _ => cases T <;> (cases h; exact kit_ty (show kitB "bool" _ = some _ by decide +kernel))
  | int _ => cases T <;> (cases h; exact kit_ty (show kitB "int" _ = some _ by decide +kernel))
  | str _ => cases T <;> (cases h; exact kit_ty (show kitB "str" _ = some _ by decide +kernel))
  | tup _ => cases T <;> (cases h; exact kit_ty (show kitB "tuple" _ = some _ by decide +kernel))
  | lst _ => cases T <;> (cases h; exact kit_ty (show kitB "list" _ = some _ by decide +kernel))
  | frz _ => cases T <;> (cases h; exact kit_ty (show kitB "list" _ = some _ by decide +kernel))
  | dct _ => cases T <;> (cases h; exact kit_ty (show kitB "dict" _ = some _ by decide +kernel))
  | ins _ _ => cases h
  | exc _ _ => cases h
  | loc _ => cases h
theorem kit_isKs {K : PySem.W.Frag} {d : D} : ∀ {Ts : List Ty} {b : Bool}, isKs d Ts = some b → PySem.W.kitAny K (.type (kdN d)) (Ts.map fun T => .type T.nm) = some b
  | [], b, h => by cases h; rfl
  | T :: Ts, b, h => by
    unfold isKs at h
    obtain ⟨k, hk, h⟩ := obind h
    refine kitAny_cons (kit_isK hk) (fun e => ?_) fun e => ?_
    · subst e; exact kit_isKs h
    · subst e; cases h; rfl
theorem tyx {M : Mt} {H : Hp} {S : Sto} {v : V} {d : D} (s : Sim g M H S) (r : Rep g M v d) (h : (isK .int (der S d)).isSome = true) : TyX g.K H v (.type (kdN (der S d))) := by
  have q := rep_der s r
  cases hd : der S d with
  | non => rw [hd] at q; cases q; exact .base .non
  | bl b => rw [hd] at q; cases q; exact .base (.bl _)
  | int b => rw [hd] at q; cases q; exact .base (.int _)
  | str b => rw [hd] at q; cases q; exact .base (.str _)
  | tup ds =>
    rw [hd] at q
    cases q with
    | tup a b =>
      rcases a with (a | ⟨o, a⟩) | ⟨o, its, n, a1, a2, _⟩
      · exact .base (.tup a)
      · exact .fTuple a
      · exact .kTuple a1 a2
  | lst ds => rw [hd] at q; cases q with | lst a b => exact .base (.lst a)
  | frz ds =>
    rw [hd] at q
    cases q with
    | frz a b =>
      rcases a with (a | ⟨o, a⟩) | ⟨o, its, n, a1, a2, _⟩
      · exact .base (.lst a)
      · exact .base (.frz a)
      · exact .kList a1 a2
  | dct ds =>
    rw [hd] at q
    cases q with
    | dK a b => exact .base (.dK a)
    | dT a b => exact .base (.dT a)
  | ins c fs => rw [hd] at h; cases h
  | exc c fs => rw [hd] at h; cases h
  | loc l => rw [hd] at h; cases h
def eIsi (T : Ty) (fa : Ev) : Ev := fun e S => (fa e S).bind fun d S => Ret.of ((isK T (der S d)).map .bl) S
theorem isK_some {T : Ty} {d : D} {b : Bool} (h : isK T d = some b) : (isK .int d).isSome = true := by
  cases d <;> first | rfl | cases h
theorem d_isi {T : Ty} {y : Str} {py : Pos} (hK : g.K = X.K) (hT : y = Str.ofString T.nm) (hgT : Gl X y) (hmT : X.mg y = none) (hvT : bootBuiltins y = some (.type T.nm)) (hg : Gl X x) (hm : X.mg x = none) (hv : bootBuiltins x = some (.builtin "isinstance"))
    (ha : PE X a (tE g W fa)) (hn : x ≠ "__name__" := by decide) (hdb : (x == ("__debug__" : Str)) = false := by decide) (hn2 : y ≠ "__name__" := by decide) (hd2 : (y == ("__debug__" : Str)) = false := by decide)
    (h1 : starEach [a, .Name y py] X.env = (false, eval a X.env) :: starEach [.Name y py] X.env := by rfl) (h2 : starEach [.Name y py] X.env = (false, eval (.Name y py) X.env) :: starEach [] X.env := by rfl) (hpl : (backTo pos (starEach [.Name y py] X.env)).any (·.1) = false := by rfl) :
    PE X (.Call (.Name x p) [a, .Name y py] [] pos) (tE g W (eIsi T fa)) := by
  refine (pe_callB call_isi hg hm hv (pa_cons ha (pa_cons (pe_bltn (v := .ty T.nm) hgT hmT hvT rfl hn2 hd2) pa_nil h2) h1) hn hdb h1 hpl).weak fun σ H Q ⟨e, S, M, s, er, q⟩ => ⟨e, S, M, s, er, seqG q fun v d S1 M1 H1 n1 r1 q1 => ?_⟩
  obtain ⟨z, hz, q1⟩ := Ret.of_on q1
  obtain ⟨k, hk, rfl⟩ := omap hz
  exact ⟨v, _, _, _, k, rfl, .ty T.nm, hK ▸ tyx n1.sim r1 (isK_some hk), kit_isK hk, kG_here n1.sim (Rep.bl _) q1⟩
def eIsis (Ts : List Ty) (fa : Ev) : Ev := fun e S => (fa e S).bind fun d S => Ret.of ((isKs (der S d) Ts).map .bl) S
/-- the types of a written tuple -/
inductive TyEs (X : Cx) : List Expr → List Ty → Prop where
  | nil : TyEs X [] []
  | cons {T : Ty} {y : Str} {py : Pos} {es : List Expr} {Ts : List Ty} (hgT : Gl X y) (hmT : X.mg y = none) (hvT : bootBuiltins y = some (.type T.nm)) (hn2 : y ≠ "__name__") (hd2 : (y == ("__debug__" : Str)) = false)
      (h2 : starEach (.Name y py :: es) X.env = (false, eval (.Name y py) X.env) :: starEach es X.env) (r : TyEs X es Ts) : TyEs X (.Name y py :: es) (T :: Ts)
theorem TyEs.pa : ∀ {es : List Expr} {Ts : List Ty}, TyEs X es Ts → PA X es fun _ H Q => Q (Ts.map fun T => V.ty T.nm) H
  | _, _, .nil => pa_nil.weak fun σ H Q h => h
  | _, _, .cons hgT hmT hvT hn2 hd2 h2 r => (pa_cons (pe_bltn (v := .ty _) hgT hmT hvT rfl hn2 hd2) r.pa h2).weak fun σ H Q h => h
theorem clsV_all : ∀ Ts : List Ty, Paired ClsV (Ts.map fun T => V.ty T.nm) (Ts.map fun T => Value.type T.nm)
  | [] => .nil
  | T :: Ts => .cons (.ty T.nm) (clsV_all Ts)
theorem isKs_some {d : D} : ∀ {T : Ty} {Ts : List Ty} {b : Bool}, isKs d (T :: Ts) = some b → (isK .int d).isSome = true := fun {T Ts b} h => by
  unfold isKs at h
  obtain ⟨k, hk, _⟩ := obind h
  exact isK_some hk
theorem d_isis {T : Ty} {Ts : List Ty} {ts : List Expr} {k : Nat} {pt : Pos} (hK : g.K = X.K) (ht : TyEs X ts (T :: Ts)) (hl : (T :: Ts).length ≤ 100) (hg : Gl X x) (hm : X.mg x = none) (hv : bootBuiltins x = some (.builtin "isinstance"))
    (ha : PE X a (tE g W fa)) (hn : x ≠ "__name__" := by decide) (hdb : (x == ("__debug__" : Str)) = false := by decide)
    (h1 : starEach [a, .Tuple ts k pt] X.env = (false, eval a X.env) :: starEach [.Tuple ts k pt] X.env := by rfl) (h2 : starEach [.Tuple ts k pt] X.env = (false, eval (.Tuple ts k pt) X.env) :: starEach [] X.env := by rfl) (hpl : (backTo pos (starEach [.Tuple ts k pt] X.env)).any (·.1) = false := by rfl) :
    PE X (.Call (.Name x p) [a, .Tuple ts k pt] [] pos) (tE g W (eIsis (T :: Ts) fa)) := by
  refine (pe_callB call_isiT hg hm hv (pa_cons ha (pa_cons (pe_tup ht.pa) pa_nil h2) h1) hn hdb h1 hpl).weak fun σ H Q ⟨e, S, M, s, er, q⟩ => ⟨e, S, M, s, er, seqG q fun v d S1 M1 H1 n1 r1 q1 => ?_⟩
  obtain ⟨z, hz, q1⟩ := Ret.of_on q1
  obtain ⟨k, hk, rfl⟩ := omap hz
  refine ⟨?_, fun tp ntp => ?_⟩
  · have hs := sizeLine_eq
    rw [List.length_map]
    omega
  have n2 := Nxt.laid (o := .tup ((T :: Ts).map fun T => V.ty T.nm)) n1.sim ntp
  refine ⟨v, tp, _, _, _, k, rfl, upd_same, clsV_all _, hK ▸ tyx n2.sim (r1.le n2.le) (isKs_some hk), kit_isKs hk, ?_⟩
  exact q1 _ _ _ n2 (.bl _)
end
end DL

namespace DL
open PySem PySem.Spec PyProof.Rows L2

section
variable {X : Cx} {g : G} {W : WX} {a b c e o : Expr} {es : List Expr} {fa fb fc : Ev} {fr fk : Av} {pos p apos cpos p2 : Pos} {x : Str} {k : Nat} {f : Addr} {fd : FuncData} {ps ks : List Str} {n : Nat} {m : Fn} {kws : List Keyword}
/-! ### calls with keywords -/
theorem run_fnkS {gg : List Value → List Value → List Value} {gV : List V → List V → List V} {sp : Sp} {CX : CXT} {E : XK} {pins : List (Addr × Obj)} {σ : L2.St} {H : Hp} {s : Shared} {Q : VK} {us ws : List Value} {vs zs : List V} (F : FnOk X.prog X.w X.K X.mg X.base CX k f fd ps sp) (hr : Room k X.A) (hb : KBinds X.K fd ps ks gg gV) (hx : PassesAt CX X σ E)
    (I : Inv X pins σ H s) (r : Vals vs us) (rz : Vals zs ws) (h : sp (gV vs zs) H Q E) : wpAny (model X.prog X.w) X.A (call (.ref f) us (ks.zip ws)) (EP X pins σ Q) X.xe s := by
  have r2 := hb.rel r rz
  have hl : (gg us ws).length = ps.length := by rw [← r2.length]; exact F.len _ _ _ _ h
  refine wpAny_call (codeAny_mono (F.run X.A X.stack s H ⟨us, ks.zip ws⟩ (gg us ws) (gV vs zs) Q E hr I.env0 (hb.to s us ws I.kIn hl) r2 h) fun r s' hq => ?_)
  cases r with
  | error e => exact hx pins H s e s' I hq
  | ok fl => cases fl with
    | ret u => exact I.after hq
    | _ => exact False.elim hq
theorem w_callK {gD : List D → List D → List D} {gV : List V → List V → List V} (hg : ∀ M vs ds zs es, Reps g M vs ds → Reps g M zs es → Reps g M (gV vs zs) (gD ds es)) {σ : L2.St} {H : Hp} {Q : VK} (h : tE g W (eCallK n m gD fr fk) σ H Q) :
    tA g W fr σ H fun vs H1 => tA g W fk σ H1 fun zs H2 => spF g n m (gV vs zs) H2 Q (WE W σ) := by
  obtain ⟨e, S, M, s, er, q⟩ := h
  refine ⟨e, S, M, s, er, seqG q fun vs ds S1 M1 H1 n1 r1 q1 => ?_⟩
  refine ⟨e, S1, M1, n1.sim, er.le n1.le, seqG q1 fun zs es S2 M2 H2 n2 r2 q2 => ?_⟩
  obtain ⟨hl, q2⟩ := ifok q2
  exact ⟨_, S2, M2, hl, n2.sim, hg _ _ _ _ _ (r1.le n2.le) r2, Ret.on_mono q2 (fun _ _ z => z) fun x S2 z cls od M' H' n' rx => z cls od M' H' n' rx⟩
theorem d_callK {gg : List Value → List Value → List Value} {gV : List V → List V → List V} {gD : List D → List D → List D} (F : FnOk X.prog X.w X.K X.mg X.base (L2.CX X.prog X.w) k f fd ps (spF g n m)) (hr : Room k X.A) (hg : Gl X x) (hm : X.mg x = some (.ref f)) (hk : PySem.W.keepIn X.K (.ref f) = true) (hb : KBinds X.K fd ps ks gg gV) (tk : Takes X W)
    (hgD : ∀ M vs ds zs es, Reps g M vs ds → Reps g M zs es → Reps g M (gV vs zs) (gD ds es)) (ha : PA X (e :: es) (tA g W fr)) (hkw : PK X kws (tA g W fk)) (hall : (backToKw pos (keywordEach kws X.env)).all (·.1.isSome) = true := by rfl) (hks : (backToKw pos (keywordEach kws X.env)).filterMap (·.1) = ks := by rfl)
    (hdb : (x == ("__debug__" : Str)) = false := by decide) (he : starEach (e :: es) X.env = (false, eval e X.env) :: starEach es X.env := by rfl)
    (hpl : ((backTo pos (starEach (e :: es) X.env)).any (·.1) || (backToKw pos (keywordEach kws X.env)).any (·.1.isNone)) = false := by rfl) : PE X (.Call (.Name x p) (e :: es) kws pos) (tE g W (eCallK n m gD fr fk)) := by
  refine ⟨fun pins s σ H Q I h => ?_⟩
  have h := w_callK hgD h
  refine wpAny_Call_Name_kw (ld_glob I hg hm ?_ hdb)
  refine PySem.W.callWith_KW (h₀ := X.base) I.ok.mod.kin hk hall (thn (ha.run pos pins s σ H _ I h) fun us s1 ⟨vs, H1, I1, r, q⟩ => ?_) hpl he
  refine thn (hkw.run pos pins s1 σ H1 _ I1 q) fun ws s2 ⟨zs, H2, I2, rz, q2⟩ => ⟨I2.kIn, ?_⟩
  rw [hks]; exact run_fnkS F hr hb (passAt tk σ) I2 r rz q2

/-! ### subscripts, slices -/
def opIx : F2 := fun x y S => match y with
  | .int i => match der S x with
    | .tup xs => atI xs i
    | .lst xs => atI xs i
    | .str z => if z.length ≤ LN then (atI z.cps.toList i).map fun c => .str ⟨#[c]⟩ else none
    | _ => none
  | _ => none
theorem _root_.L2.IxR.weak {r r' : R2} (h : IxR X r) (w : ∀ x y H Q, r' x y H Q → r x y H Q) : IxR X r' := fun va sl pins s σ H x y v u Q I rx ry q hs => h va sl pins s σ H x y v u Q I rx ry (w _ _ _ _ q) hs
theorem Reps.atI {M : Mt} {vs : List V} {ds : List D} {i : Int} {d : D} (r : Reps g M vs ds) (h : L2.atI ds i = some d) : ∃ v, L2.atI vs i = some v ∧ Rep g M v d := by
  unfold L2.atI at h ⊢
  rw [r.len]
  cases hj : ixN ds.length i with
  | none => rw [hj] at h; cases h
  | some j =>
    rw [hj] at h
    exact r.getV h
theorem o_ix (hK : g.K = X.K) : IxR X (rF2 g opIx) := by
  refine ix_seq.weak fun x y H Q ⟨a, b, S, M, d, s, ra, rb, hf, q⟩ => ?_
  unfold opIx at hf
  split at hf
  · rename_i i
    cases rb
    split at hf
    · rename_i xs e
      obtain ⟨p, vs, rfl, h, r⟩ := s.tupL ra e
      obtain ⟨v, hv, rv⟩ := r.atI hf
      exact .inr (.inl ⟨p, vs, i, v, rfl, rfl, hK ▸ h, hv, kG_here s rv q⟩)
    · rename_i xs e
      obtain ⟨p, vs, rfl, h, r⟩ := s.lstL ra e
      obtain ⟨v, hv, rv⟩ := r.atI hf
      exact .inl ⟨p, vs, i, v, rfl, rfl, .inl (.inl h), hv, kG_here s rv q⟩
    · rename_i z e
      by_cases hl : z.length ≤ LN
      · rw [if_pos hl] at hf
        obtain ⟨c, hc, rfl⟩ := omap hf
        exact .inr (.inr ⟨z, i, c, s.strL ra e, rfl, Nat.le_trans hl line_LN, hc, kG_here s (Rep.str _) q⟩)
      · rw [if_neg hl] at hf; cases hf
    · cases hf
  · cases hf
theorem d_ix (hK : g.K = X.K) (ha : PE X a (tE g W fa)) (hb : PE X b (tE g W fb)) (hs : PlainIx b) : PE X (.Subscript a b pos) (tE g W (eOp opIx fa fb)) :=
  (pe_ix (o_ix hK) ha hb hs).weak fun _ _ _ h => w_op h
/-- a part of a slice -/
def pNo : DL.Env → Sto → Ret (Option Int) := fun _ S => .ok none S
def pSo (fa : Ev) : DL.Env → Sto → Ret (Option Int) := fun e S => (fa e S).bind fun d S => match d with
  | .int i => .ok (some i) S
  | _ => .bad
def tO (g : G) (W : WX) (f : DL.Env → Sto → Ret (Option Int)) : TO := fun σ H Q => ∃ (e : DL.Env) (S : Sto) (M : Mt), Sim g M H S ∧ EnvR g M σ e ∧ (f e S).on (kG g (fun _ (a b : Option Int) => a = b) M H Q) (kX g W M H σ)
theorem _root_.L2.PO.weak {e : Option Expr} {t t' : TO} (h : PO X e t) (w : ∀ σ H Q, t' σ H Q → t σ H Q) : PO X e t' := ⟨fun pins s σ H Q I q => h.run pins s σ H Q I (w σ H Q q)⟩
theorem o_no : PO X none (tO g W pNo) := po_none.weak fun σ H Q ⟨e, S, M, s, er, q⟩ => kG_here s (Rl := fun _ a b => a = b) rfl q
theorem o_so (ha : PE X a (tE g W fa)) : PO X (some a) (tO g W (pSo fa)) := by
  refine (po_some ha).weak fun σ H Q ⟨e, S, M, s, er, q⟩ => ⟨e, S, M, s, er, seqG q fun v d S1 M1 H1 n1 r1 q1 => ?_⟩
  cases d with
  | int i => cases r1; exact ⟨i, rfl, kG_here n1.sim (Rl := fun _ a b => a = b) rfl q1⟩
  | _ => exact (show False from q1).elim
def cutD {α : Type} (xs : List α) (lo hi : Option Int) : List α := (xs.drop (HT.sIx xs.length 0 lo)).take (HT.sIx xs.length xs.length hi - HT.sIx xs.length 0 lo)
theorem Reps.drop {M : Mt} : ∀ {vs : List V} {ds : List D} (n : Nat), Reps g M vs ds → Reps g M (vs.drop n) (ds.drop n)
  | _, _, 0, r => r
  | _, _, _ + 1, .nil => .nil
  | _, _, n + 1, .cons _ t => Reps.drop n t
theorem Reps.take {M : Mt} : ∀ {vs : List V} {ds : List D} (n : Nat), Reps g M vs ds → Reps g M (vs.take n) (ds.take n)
  | _, _, 0, _ => .nil
  | _, _, _ + 1, .nil => .nil
  | _, _, n + 1, .cons r t => .cons r (Reps.take n t)
theorem Reps.cut {M : Mt} {vs : List V} {ds : List D} (lo hi : Option Int) (r : Reps g M vs ds) : Reps g M (cutV vs lo hi) (cutD ds lo hi) := by
  unfold cutV cutD
  rw [r.len]
  exact (r.drop _).take _
def opSl (x : D) (lo hi : Option Int) (S : Sto) : Option D := match der S x with
  | .tup xs => some (.tup (cutD xs lo hi))
  | .lst xs => some (.lst (cutD xs lo hi))
  | .frz xs => some (.lst (cutD xs lo hi))
  | .str z => if z.length ≤ LN then some (.str (cutS z lo hi)) else none
  | _ => none
def eSl (fa : Ev) (fl fh : DL.Env → Sto → Ret (Option Int)) : Ev := fun e S => (fa e S).bind fun d S => (fl e S).bind fun lo S => (fh e S).bind fun hi S => Ret.of (opSl d lo hi S) S
theorem cut_whole {α : Type} {xs : List α} {lo hi : Option Int} (h : HT.sIx xs.length 0 lo = 0 ∧ HT.sIx xs.length xs.length hi = xs.length) : cutD xs lo hi = xs := by
  unfold cutD
  rw [h.1, h.2]
  simp
theorem d_sl {lo hi : Option Expr} {fl fh : DL.Env → Sto → Ret (Option Int)} (hK : g.K = X.K) (ha : PE X a (tE g W fa)) (hl : PO X lo (tO g W fl)) (hh : PO X hi (tO g W fh)) : PE X (.Subscript a (.Slice lo hi none p2) pos) (tE g W (eSl fa fl fh)) := by
  refine (pe_slice (sl_tupA.or (sl_list.or sl_str)) ha hl hh).weak fun σ H Q ⟨e, S, M, s, er, q⟩ => ⟨e, S, M, s, er, seqG q fun v d S1 M1 H1 n1 r1 q1 => ?_⟩
  refine ⟨e, S1, M1, n1.sim, er.le n1.le, seqG q1 fun l l' S2 M2 H2 n2 r2 q2 => ?_⟩
  subst r2
  refine ⟨e, S2, M2, n2.sim, (er.le n1.le).le n2.le, seqG q2 fun u u' S3 M3 H3 n3 r3 q3 => ?_⟩
  subst r3
  obtain ⟨z, hz, q3⟩ := Ret.of_on q3
  have r1 := (r1.le n2.le).le n3.le
  have s3 := n3.sim
  unfold opSl at hz
  split at hz
  · rename_i xs ed
    cases hz
    obtain ⟨p, vs, rfl, h, r⟩ := s3.tupL r1 ed
    refine .inl ⟨p, vs, rfl, hK ▸ h, fun hw => ?_, fun _ c nc => q3 _ _ _ (Nxt.laid s3 nc) (rep_tup s3 nc (r.cut l u))⟩
    rw [cut_whole (by rw [← r.len]; exact hw)] at q3
    exact kG_here s3 (show Rep g M3 (.ref p) (.tup xs) from by
      cases d with
      | tup ys => cases ed; exact r1
      | loc k => obtain ⟨mo, h1, h2, h3⟩ := der_loc ed (fun k z => nomatch z); cases mo <;> cases h3
      | _ => cases ed) q3
  · rename_i xs ed
    cases hz
    obtain ⟨p, vs, rfl, h, r⟩ := s3.lstL r1 ed
    exact .inr (.inl ⟨p, vs, rfl, .inl (.inl h), fun c nc => q3 _ _ _ (Nxt.laid s3 nc) (rep_lst s3 nc (r.cut l u))⟩)
  · rename_i xs ed
    cases hz
    cases d with
    | frz ys =>
      cases ed
      cases r1 with
      | frz h r => exact .inr (.inl ⟨_, _, rfl, hK ▸ sql_le s3.im h, fun c nc => q3 _ _ _ (Nxt.laid s3 nc) (rep_lst s3 nc (r.cut l u))⟩)
    | loc k => obtain ⟨mo, h1, h2, h3⟩ := der_loc ed (fun k z => nomatch z); cases mo <;> cases h3
    | _ => cases ed
  · rename_i y ed
    obtain ⟨hl, rfl⟩ := ite_some hz
    exact .inr (.inr ⟨y, s3.strL r1 ed, Nat.le_trans hl line_LN, kG_here s3 (Rep.str _) q3⟩)
  · cases hz

/-! ### texts -/
/-- {x} -/
def fmtD (S : Sto) : D → Option Str
  | .str y => if y.length ≤ LN then some y else none
  | .int i => if i.natAbs.log2 < 1920 then some (toString i : String) else none
  | _ => none
def eFmt (fa : Ev) : Ev := fun e S => (fa e S).bind fun d S => Ret.of ((fmtD S d).map .str) S
theorem d_fmt (ha : PE X a (tE g W fa)) : PE X (.FormattedValue a (-1) none pos) (tE g W (eFmt fa)) := by
  refine (pe_fmt ha).weak fun σ H Q ⟨e, S, M, s, er, q⟩ => ⟨e, S, M, s, er, seqG q fun v d S1 M1 H1 n1 r1 q1 => ?_⟩
  obtain ⟨z, hz, q1⟩ := Ret.of_on q1
  obtain ⟨y, hy, rfl⟩ := omap hz
  cases d with
  | str x => obtain ⟨hl, rfl⟩ := ite_some hy; cases r1; exact .inl ⟨x, rfl, Nat.le_trans hl line_LN, kG_here n1.sim (Rep.str _) q1⟩
  | int i => obtain ⟨hl, rfl⟩ := ite_some hy; cases r1; exact .inr ⟨i, rfl, hl, kG_here n1.sim (Rep.str _) q1⟩
  | _ => cases hy
/-- parts joined -/
inductive PJd (X : Cx) (g : G) (W : WX) : List Expr → List Ev → Prop where
  | nil : PJd X g W [] []
  | cons {e : Expr} {f : Ev} {es : List Expr} {fs : List Ev} (h : PE X e (tE g W f)) (r : PJd X g W es fs) : PJd X g W (e :: es) (f :: fs)
theorem PJd.pj : ∀ {es : List Expr} {fs : List Ev}, PJd X g W es fs → PJ X es (fs.map (tE g W))
  | _, _, .nil => .nil
  | _, _, .cons h r => .cons h r.pj
def runJ : List Ev → Str → DL.Env → Sto → Ret D
  | [], acc, _, S => .ok (.str acc) S
  | f :: fs, acc, e, S => (f e S).bind fun d S => match d with
    | .str y => if (acc ++ y).length ≤ LN then runJ fs (acc ++ y) e S else .bad
    | _ => .bad
theorem w_J : ∀ (fs : List Ev) (acc : Str) {σ : L2.St} {e : DL.Env} {S : Sto} {M : Mt} {H : Hp} {Q : VK}, Sim g M H S → EnvR g M σ e → (runJ fs acc e S).on (kE g M H Q) (kX g W M H σ) → tJs (fs.map (tE g W)) acc σ H fun out H1 => Q (.str out) H1
  | [], acc, σ, e, S, M, H, Q, s, er, q => kG_here s (Rep.str _) q
  | f :: fs, acc, σ, e, S, M, H, Q, s, er, q => by
    refine ⟨e, S, M, s, er, seqG q fun v d S1 M1 H1 n1 r1 q1 => ?_⟩
    cases d with
    | str y =>
      obtain ⟨hl, q1⟩ := ifok q1
      cases r1
      exact ⟨y, rfl, Nat.le_trans hl line_LN, w_J fs _ n1.sim (er.le n1.le) q1⟩
    | _ => exact (show False from q1).elim
def eJoined (fs : List Ev) : Ev := fun e S => runJ fs Str.empty e S
theorem d_joined {v1 v2 : Expr} {rest : List Expr} {fs : List Ev} (h : PJd X g W (v1 :: v2 :: rest) fs) : PE X (.JoinedStr (v1 :: v2 :: rest) pos) (tE g W (eJoined fs)) :=
  (pe_joined h.pj).weak fun _ _ _ ⟨_, _, _, s, er, q⟩ => w_J fs _ s er q
theorem d_joined1 (h : PE X a (tE g W fa)) : PE X (.JoinedStr [a] pos) (tE g W fa) := pe_joined1 h
/-- s.split(sep), sep.join(xs) -/
def splitD (x y : D) : Option D := match x, y with
  | .str a, .str b => if (b.length == 0) = false ∧ a.length + 2 ≤ LN then some (.lst ((Txt.split a b).map .str)) else none
  | _, _ => none
theorem reps_strs {M : Mt} : ∀ ys : List Str, Reps g M (ys.map V.str) (ys.map D.str)
  | [] => .nil
  | y :: ys => .cons (.str y) (reps_strs ys)
/-- a method of a text, one argument -/
def eM1 (fo : D → D → Option D) (fa fb : Ev) : Ev := fun e S => (fa e S).bind fun d S => match d with
  | .str a => (fb e S).bind fun d2 S => Ret.of (fo (.str a) d2) S
  | _ => .bad
theorem d_split (ha : PE X a (tE g W fa)) (hb : PE X b (tE g W fb)) (hs : starEach [b] X.env = [(false, eval b X.env)] := by rfl) (hbase : attributeBase a "split" X.env (eval a X.env) = eval a X.env := by rfl) (hline : (apos.endLine == pos.line) = true := by rfl) :
    PE X (.Call (.Attribute a "split" apos) [b] [] pos) (tE g W (eM1 splitD fa fb)) := by
  refine (pe_split ha hb hs hbase hline).weak fun σ H Q ⟨e, S, M, s, er, q⟩ => ⟨e, S, M, s, er, seqG q fun v d S1 M1 H1 n1 r1 q1 => ?_⟩
  cases d with
  | str a =>
    cases r1
    refine ⟨⟨a, rfl⟩, e, S1, M1, n1.sim, er.le n1.le, seqG q1 fun w d2 S2 M2 H2 n2 r2 q2 => ?_⟩
    obtain ⟨z, hz, q2⟩ := Ret.of_on q2
    cases d2 with
    | str b =>
      obtain ⟨hl, rfl⟩ := ite_some hz
      cases r2
      exact ⟨a, b, rfl, rfl, hl.1, Nat.le_trans hl.2 line_LN, fun p np => q2 _ _ _ (Nxt.laid n2.sim np) (rep_lst n2.sim np (reps_strs _))⟩
    | _ => cases hz
  | _ => exact (show False from q1).elim
def asStr : D → Option Str
  | .str x => some x
  | _ => none
def strsOf : List D → Option (List Str)
  | [] => some []
  | .str x :: ds => (strsOf ds).map (x :: ·)
  | _ => none
theorem strsOf_some : ∀ {ds : List D} {ys : List Str}, strsOf ds = some ys → ds = ys.map .str
  | [], ys, h => by cases h; rfl
  | .str x :: ds, ys, h => by
    obtain ⟨zs, hz, rfl⟩ := omap h
    rw [strsOf_some hz]; rfl
  | .non :: _, _, h => by cases h
  | .bl _ :: _, _, h => by cases h
  | .int _ :: _, _, h => by cases h
  | .tup _ :: _, _, h => by cases h
  | .lst _ :: _, _, h => by cases h
  | .frz _ :: _, _, h => by cases h
  | .dct _ :: _, _, h => by cases h
  | .ins _ _ :: _, _, h => by cases h
  | .loc _ :: _, _, h => by cases h
theorem reps_strs_inv {M : Mt} : ∀ {ys : List Str} {vs : List V}, Reps g M vs (ys.map D.str) → vs = ys.map V.str
  | [], _, .nil => rfl
  | _ :: _, _, .cons (.str _) t => by rw [reps_strs_inv t]; rfl
def joinD (x y : D) : Option D := match x, y with
  | .str a, .lst ds => (strsOf ds).bind fun ys => if (ys.map (·.length)).sum + ys.length * a.length ≤ LN then some (.str (Txt.join a ys)) else none
  | _, _ => none
theorem d_join (ha : PE X a (tE g W fa)) (hb : PE X b (tE g W fb)) (hs : starEach [b] X.env = [(false, eval b X.env)] := by rfl) (hbase : attributeBase a "join" X.env (eval a X.env) = eval a X.env := by rfl) (hline : (apos.endLine == pos.line) = true := by rfl) :
    PE X (.Call (.Attribute a "join" apos) [b] [] pos) (tE g W (eM1 joinD fa fb)) := by
  refine (pe_join ha hb hs hbase hline).weak fun σ H Q ⟨e, S, M, s, er, q⟩ => ⟨e, S, M, s, er, seqG q fun v d S1 M1 H1 n1 r1 q1 => ?_⟩
  cases d with
  | str a =>
    cases r1
    refine ⟨⟨a, rfl⟩, e, S1, M1, n1.sim, er.le n1.le, seqG q1 fun w d2 S2 M2 H2 n2 r2 q2 => ?_⟩
    obtain ⟨z, hz, q2⟩ := Ret.of_on q2
    cases d2 with
    | lst ds =>
      obtain ⟨ys, hy, hz⟩ := obind hz
      obtain ⟨hl, rfl⟩ := ite_some hz
      rw [strsOf_some hy] at r2
      cases r2 with
      | lst h r => exact ⟨a, _, ys, rfl, rfl, .inl (by rw [← reps_strs_inv r]; exact .inl (.inl (n2.sim.im _ _ h))), hl, kG_here n2.sim (Rep.str _) q2⟩
    | _ => cases hz
  | _ => exact (show False from q1).elim

/-! ### a list that changes -/
/-- the list at a place, its items -/
def lstAt (S : Sto) : D → Option (Nat × List D)
  | .loc l => match S[l]? with
    | some (.lst ds) => some (l, ds)
    | _ => none
  | _ => none
theorem lstAt_some {S : Sto} {d : D} {l : Nat} {ds : List D} (h : lstAt S d = some (l, ds)) : d = .loc l ∧ S[l]? = some (.lst ds) := by
  unfold lstAt at h
  split at h
  · split at h
    · rename_i e; cases h; exact ⟨rfl, e⟩
    · cases h
  · cases h
theorem Sim.lstAt {M : Mt} {H : Hp} {S : Sto} {v : V} {d : D} {l : Nat} {ds : List D} (s : Sim g M H S) (r : Rep g M v d) (h : DL.lstAt S d = some (l, ds)) : ∃ p vs, v = .ref p ∧ M.m[l]? = some p ∧ H p = some (.lst vs) ∧ Reps g M vs ds := by
  obtain ⟨rfl, h1⟩ := lstAt_some h
  obtain ⟨p, rfl, hl⟩ := r.at_loc
  obtain ⟨_, q⟩ := s.lv l p _ hl h1 rfl
  cases q with
  | lst h r => exact ⟨p, _, rfl, hl, h, r⟩
/-- xs.append(x): the list is found first -/
def eAppend (fo fa : Ev) : Ev := fun e S => (fo e S).bind fun o S => if (lstAt S o).isSome = true then (fa e S).bind fun d S => match lstAt S o with
  | some (l, ds) => if ds.length < LN then .ok .non (S.set l (.lst (ds ++ [d]))) else .bad
  | none => .bad
  else .bad
theorem d_append {fo : Ev} (ho : PE X o (tE g W fo)) (ha : PE X a (tE g W fa)) (hb1 : starEach [a] X.env = (false, eval a X.env) :: starEach [] X.env := by rfl) (hbase : attributeBase o "append" X.env (eval o X.env) = eval o X.env := by rfl)
    (hfew : ((backTo cpos (starEach [a] X.env)).all (fun x => !x.1) && (backToKw cpos (keywordEach [] X.env)).all (fun x => x.1.isSome) && decide ([a].length + ([] : List Keyword).length + (if ([] : List Keyword).isEmpty then 0 else 1) < 30)) = true := by rfl)
    (hline : (apos.endLine == cpos.line) = true := by rfl) (hplain : (backTo cpos (starEach [] X.env)).any (·.1) = false := by rfl) : PE X (.Call (.Attribute o "append" apos) [a] [] cpos) (tE g W (eAppend fo fa)) := by
  refine (pe_bm PySem.F.plainAttrs_list PySem.F.slot_list_append PySem.F.type_list_append mt_append ho (pa_cons ha pa_nil hb1) hbase hfew hline hb1 hplain).weak fun σ H Q ⟨e, S, M, s, er, q⟩ => ⟨e, S, M, s, er, seqG q fun v d S1 M1 H1 n1 r1 q1 => ?_⟩
  obtain ⟨hs1, q1⟩ := ifok q1
  cases h : lstAt S1 d with
  | none => rw [h] at hs1; cases hs1
  | some pr =>
    obtain ⟨l, ds⟩ := pr
    obtain ⟨p, vs, rfl, hl, hp, r⟩ := n1.sim.lstAt r1 h
    refine ⟨.inl ⟨rfl, _, .inl (.inl hp)⟩, e, S1, M1, n1.sim, er.le n1.le, seqG q1 fun w d2 S2 M2 H2 n2 r2 q2 => ?_⟩
    cases h2 : lstAt S2 d with
    | none => rw [h2] at q2; exact (show False from q2).elim
    | some pr =>
      obtain ⟨l2, ds2⟩ := pr
      rw [h2] at q2
      obtain ⟨hlen, q2⟩ := ifok q2
      obtain ⟨p2, vs2, e2, hl2, hp2, r3⟩ := n2.sim.lstAt (r1.le n2.le) h2
      cases e2
      have hlt : vs2.length < sizeLine := by rw [r3.len]; exact Nat.lt_of_lt_of_le hlen line_LN
      refine ⟨p, vs2, w, rfl, rfl, hp2, hlt, ?_⟩
      have n3 := Nxt.write n2.sim hl2 (lstAt_some h2).2 rfl (o := .lst (vs2 ++ [w])) (mo' := .lst (ds2 ++ [d2])) (.lst upd_same (r3.app (.cons r2 .nil)))
      exact q2 _ _ _ n3 .non
/-- xs[i] = v -/
def gvSub (fo fi : Ev) : Gv := fun d e S => match fo e S with
  | .ok o S => match fi e S with
    | .ok (.int i) S => match lstAt S o with
      | some (l, ds) => (ixN ds.length i).bind fun j => some (e, S.set l (.lst (ds.set j d)))
      | none => none
    | _ => none
  | _ => none
theorem Reps.set {M : Mt} : ∀ {vs : List V} {ds : List D} {v : V} {d : D} (j : Nat), Reps g M vs ds → Rep g M v d → Reps g M (vs.set j v) (ds.set j d)
  | _, _, _, _, _, .nil, _ => .nil
  | _, _, _, _, 0, .cons _ t, r => .cons r t
  | _, _, _, _, j + 1, .cons a t, r => .cons a (Reps.set j t r)
theorem g_sub {i : Expr} {fo fi : Ev} (ho : PE X o (tE g W0 fo)) (hi : PE X i (tE g W0 fi)) (ha : ∀ v, assign (.Subscript o i pos) X.env v = (do
      let ov ← holding [v] (eval o X.env)
      let iv ← holding [v, ov] (eval i X.env)
      standAt pos
      holding [v, ov, iv] (setItem ov iv v)
      release [v, ov, iv] []) := by intro _; rfl) : PG X (.Subscript o i pos) (tGv g [] (gvSub fo fi)) := by
  refine (pg_sub ho hi set_list ha).weak fun v σ H Q ⟨d, e, S, M, r, s, er, rv, hr, q⟩ => ?_
  unfold gvSub at hr
  split at hr
  · rename_i o S1 eo
    refine ⟨e, S, M, s, er, ?_⟩
    rw [eo]
    intro x M1 H1 n1 r1
    split at hr
    · rename_i k S2 ek
      refine ⟨e, S1, M1, n1.sim, er.le n1.le, ?_⟩
      rw [ek]
      intro y M2 H2 n2 r2
      split at hr
      · rename_i l ds hl
        obtain ⟨j, hj, hr⟩ := obind hr
        cases hr
        cases r2
        obtain ⟨p, vs, rfl, h1, h2, h3⟩ := n2.sim.lstAt (r1.le n2.le) hl
        refine ⟨p, vs, k, j, rfl, rfl, h2, by rw [h3.len]; exact hj, ?_⟩
        have n3 := Nxt.write n2.sim h1 (lstAt_some hl).2 rfl (o := .lst (vs.set j v)) (mo' := .lst (ds.set j d)) (.lst upd_same (h3.set j ((rv.le n1.le).le n2.le)))
        exact q σ _ _ (n1.trans (n2.trans n3)) ((er.le n1.le).le n2.le) ⟨rfl, fun _ _ => rfl⟩
      · cases hr
    · cases hr
  · cases hr

/-! ### more built-in functions -/
def blsOf : List D → Option (List Bool)
  | [] => some []
  | .bl b :: ds => (blsOf ds).map (b :: ·)
  | _ => none
theorem blsOf_some : ∀ {ds : List D} {ys : List Bool}, blsOf ds = some ys → ds = ys.map .bl
  | [], ys, h => by cases h; rfl
  | .bl x :: ds, ys, h => by
    obtain ⟨zs, hz, rfl⟩ := omap h
    rw [blsOf_some hz]; rfl
  | .non :: _, _, h => by cases h
  | .str _ :: _, _, h => by cases h
  | .int _ :: _, _, h => by cases h
  | .tup _ :: _, _, h => by cases h
  | .lst _ :: _, _, h => by cases h
  | .frz _ :: _, _, h => by cases h
  | .dct _ :: _, _, h => by cases h
  | .ins _ _ :: _, _, h => by cases h
  | .loc _ :: _, _, h => by cases h
theorem reps_bls_inv {M : Mt} : ∀ {ys : List Bool} {vs : List V}, Reps g M vs (ys.map D.bl) → vs = ys.map V.bl
  | [], _, .nil => rfl
  | _ :: _, _, .cons (.bl _) t => by rw [reps_bls_inv t]; rfl
def fAll : FL := fun ds _ => match ds with
  | [.lst xs] => (blsOf xs).map fun bs => .bl (bs.all id)
  | _ => none
def fAny : FL := fun ds _ => match ds with
  | [.lst xs] => (blsOf xs).map fun bs => .bl (bs.any id)
  | _ => none
theorem o_all (hc : X.calm = true) : CallR X (.builtin "all") (rFL g fAll) := by
  refine (cr_all hc).weak fun xs H Q ⟨ds, S, M, d, s, r, hf, q⟩ => ?_
  unfold fAll at hf
  split at hf
  · obtain ⟨bs, hb, rfl⟩ := omap hf
    obtain ⟨v, rfl, rv⟩ := r.one
    rw [blsOf_some hb] at rv
    cases rv with
    | lst h r => exact ⟨_, bs, rfl, by rw [← reps_bls_inv r]; exact .inl (.inl (s.im _ _ h)), kG_here s (Rep.bl _) q⟩
  · cases hf
theorem o_any (hc : X.calm = true) : CallR X (.builtin "any") (rFL g fAny) := by
  refine (cr_any hc).weak fun xs H Q ⟨ds, S, M, d, s, r, hf, q⟩ => ?_
  unfold fAny at hf
  split at hf
  · obtain ⟨bs, hb, rfl⟩ := omap hf
    obtain ⟨v, rfl, rv⟩ := r.one
    rw [blsOf_some hb] at rv
    cases rv with
    | lst h r => exact ⟨_, bs, rfl, by rw [← reps_bls_inv r]; exact .inl (.inl (s.im _ _ h)), kG_here s (Rep.bl _) q⟩
  · cases hf
/-- int(x): an int, a truth, a text of digits -/
def fInt : FL := fun ds _ => match ds with
  | [.int i] => some (.int i)
  | [.bl b] => some (.int (if b then 1 else 0))
  | [.str x] => if x.length ≤ 640 then (PySem.intText? x).map .int else none
  | _ => none
theorem o_int : CallR X (.type "int") (rFL g fInt) := by
  refine CallR.weak (CallR.or (call_int1 (X := X)) (call_int_str (X := X))) fun xs H Q ⟨ds, S, M, d, s, r, hf, q⟩ => ?_
  unfold fInt at hf
  split at hf
  · cases hf
    obtain ⟨v, rfl, rv⟩ := r.one
    cases rv
    exact .inl (.inl ⟨_, rfl, kG_here s (Rep.int _) q⟩)
  · cases hf
    obtain ⟨v, rfl, rv⟩ := r.one
    cases rv
    exact .inl (.inr ⟨_, rfl, kG_here s (Rep.int _) q⟩)
  · rename_i x
    by_cases hl : x.length ≤ 640
    · rw [if_pos hl] at hf
      obtain ⟨n, hn, rfl⟩ := omap hf
      obtain ⟨v, rfl, rv⟩ := r.one
      cases rv
      exact .inr ⟨x, n, rfl, hn, hl, kG_here s (Rep.int _) q⟩
    · rw [if_neg hl] at hf; cases hf
  · cases hf
def fStr : FL := fun ds _ => match ds with
  | [.int i] => if i.natAbs.log2 < 1920 then some (.str (toString i : String)) else none
  | _ => none
theorem o_str : CallR X (.type "str") (rFL g fStr) := by
  refine call_str_int.weak fun xs H Q ⟨ds, S, M, d, s, r, hf, q⟩ => ?_
  unfold fStr at hf
  split at hf
  · obtain ⟨hl, rfl⟩ := ite_some hf
    obtain ⟨v, rfl, rv⟩ := r.one
    cases rv
    exact ⟨_, rfl, hl, kG_here s (Rep.str _) q⟩
  · cases hf
/-- list(x) of a list, a tuple -/
def fList : FL := fun ds S => match ds with
  | [x] => match der S x with
    | .lst xs => some (.lst xs)
    | .tup xs => some (.lst xs)
    | _ => none
  | _ => none
theorem o_list (hK : g.K = X.K) : CallR X (.type "list") (rFL g fList) := by
  refine call_list_of.weak fun xs H Q ⟨ds, S, M, d, s, r, hf, q⟩ => ?_
  unfold fList at hf
  split at hf
  · obtain ⟨v, rfl, rv⟩ := r.one
    split at hf
    · rename_i ys e
      cases hf
      obtain ⟨a, vs, rfl, h, r1⟩ := s.lstL rv e
      exact ⟨a, vs, rfl, .inl (.inl (.inl h)), fun p np => q _ _ _ (Nxt.laid s np) (rep_lst s np r1)⟩
    · rename_i ys e
      cases hf
      obtain ⟨a, vs, rfl, h, r1⟩ := s.tupL rv e
      exact ⟨a, vs, rfl, .inr (hK ▸ h), fun p np => q _ _ _ (Nxt.laid s np) (rep_lst s np r1)⟩
    · cases hf
  · cases hf
/-- what the proof never comes to -/
def eBad : Ev := fun _ _ => .bad
def sBad : Sv := fun _ _ => .bad
theorem d_bad : PE X a (tE g W eBad) := ⟨fun _ _ _ _ _ _ ⟨_, _, _, _, _, q⟩ => (show False from q).elim⟩
theorem s_bad {st : Stmt} : PS X st (tS g W sBad) := ⟨fun _ _ _ _ _ _ ⟨_, _, _, _, _, q⟩ => (show False from q).elim⟩
theorem ss_bad {st : List Stmt} : PSs X st (tS g W sBad) := ⟨fun _ _ _ _ _ _ ⟨_, _, _, _, _, q⟩ => (show False from q).elim⟩
end
end DL

namespace DL
open PySem PySem.Spec PyProof.Rows L2

section
variable {X : Cx} {g : G} {W : WX} {a b c e o : Expr} {es : List Expr} {fa fb fc : Ev} {fr fk : Av} {pos p : Pos} {x : Str} {k : Nat} {f : Addr} {fd : FuncData} {ps : List Str} {n : Nat} {m : Fn}
theorem hu100 {A : Around} {k : Nat} (hr : Room k A) : A.units + 100 < cLine := by have := hr.un; omega
theorem hu200 {A : Around} {k : Nat} (hr : Room k A) : A.units + 200 < cLine := by have := hr.un; omega
/-- a function that is never answered for -/
theorem fnok_bad {P : Program} {w : World} {K : PySem.W.Frag} {mg : Str → Option Value} {base : Heap} {CX : CXT} (k : Nat) : FnOk P w K mg base CX k f fd ps (spF g n fun _ _ => .bad) :=
  ⟨fun vs H Q E ⟨ds, S, M, hl, s, r, q⟩ => (show False from q).elim, fun A outer s H args us vs Q E hr he hb hv ⟨ds, S, M, hl, sm, r, q⟩ => (show False from q).elim⟩
/-- a constant of the module -/
def GlV (g : G) (mg : Str → Option Value) (x : Str) (d : D) : Prop := ∃ v u, mg x = some u ∧ RelV v u ∧ ∀ M, Rep g M v d
theorem d_glob {d : D} (h : GlV g X.mg x d) (hg : Gl X x) (hd : (x == ("__debug__" : Str)) = false := by decide) : PE X (.Name x pos) (tE g W (eC d)) := by
  obtain ⟨v, u, h1, h2, h3⟩ := h
  exact d_C (pe_glob hg h1 h2 hd) h3

/-! ### any list, tuple, text is walked -/
def asAny : D → Option (List D)
  | .lst ds => some ds
  | .frz ds => some ds
  | .tup ds => some ds
  | .str x => some (x.cps.toList.map fun c => .str ⟨#[c]⟩)
  | _ => none
theorem _root_.L2.PI.or {tg e : Expr} {t t' : TI} (h : PI X tg e t) (h' : PI X tg e t') : PI X tg e (fun σ H R => t σ H R ∨ t' σ H R) := ⟨fun pins s σ H R I q => q.elim (h.run pins s σ H R I) (h'.run pins s σ H R I)⟩
theorem i_any {tg : Expr} (hK : g.K = X.K) (ha : PE X a (tE g W fa)) : PI X tg a (tI g W (iOf asAny fa)) := by
  refine ((i_lst hK ha).or ((i_tup hK ha).or (i_str ha))).weak fun σ H R ⟨e, S, M, s, er, q⟩ => ?_
  unfold iOf at q
  have key : ∀ (p : D → Option (List D)) d S1, fa e S = .ok d S1 → p d = asAny d → tI g W (iOf p fa) σ H R := fun p d S1 h1 h2 => by
    refine ⟨e, S, M, s, er, ?_⟩
    unfold iOf
    rw [h1] at q ⊢
    show (Ret.of (p d) S1).on _ _
    rw [h2]
    exact q
  cases h : fa e S with
  | bad => rw [h] at q; exact (show False from q).elim
  | exc x S1 => exact .inl ⟨e, S, M, s, er, by unfold iOf; rw [h] at q ⊢; exact q⟩
  | ok d S1 =>
    cases d with
    | lst ds => exact .inl (key asLst _ _ h rfl)
    | frz ds => exact .inl (key asLst _ _ h rfl)
    | tup ds => exact .inr (.inl (key asTup _ _ h rfl))
    | str ds => exact .inr (.inr (key asSigns _ _ h rfl))
    | _ => rw [h] at q; exact (show False from q).elim

/-! ### dict displays: {}, {k: v, ..} with written keys -/
theorem d_dict0 : PE X (.Dict [] [] pos) (tE g W (eC (.dct []))) :=
  pe_dnewK.weak fun σ H Q ⟨e, S, M, s, er, q⟩ p np => q _ _ _ (Nxt.laid s np) (.dK upd_same .nil)
/-- the keys -/
inductive DKs (X : Cx) : List (Option Expr) → List Key → Prop where
  | nil : DKs X [] []
  | int {i : Int} {j : Nat} {pos : Pos} {es : List (Option Expr)} {ks : List Key} (r : DKs X es ks) : DKs X (some (.Constant (.int i) j pos) :: es) (.inl i :: ks)
  | str {i : Str} {j : Nat} {pos : Pos} {es : List (Option Expr)} {ks : List Key} (r : DKs X es ks) : DKs X (some (.Constant (.str i) j pos) :: es) (.inr i :: ks)
inductive DVs (X : Cx) (g : G) (W : WX) : List Expr → List Ev → Prop where
  | nil : DVs X g W [] []
  | cons {e : Expr} {f : Ev} {es : List Expr} {fs : List Ev} (h : PE X e (tE g W f)) (r : DVs X g W es fs) : DVs X g W (e :: es) (f :: fs)
def aList : List Ev → Av
  | [] => aNil
  | f :: fs => aCons f (aList fs)
theorem kv_const {k : Key} : ∀ M, Rep g M (kV k) (keyD k) := fun M => by cases k <;> constructor
theorem pps_of : ∀ {kes : List (Option Expr)} {ks : List Key} {ves : List Expr} {fs : List Ev}, DKs X kes ks → DVs X g W ves fs → kes.length = ves.length → PPs X pos kes ves ((ks.zip fs).map fun q => (tC (kV q.1), tE g W q.2))
  | _, _, _, _, .nil, .nil, _ => pps_nil
  | _, _, _, _, .int r, .cons h t, hl => pps_cons pe_int h (pps_of r t (by simpa using hl))
  | _, _, _, _, .str r, .cons h t, hl => pps_cons pe_str h (pps_of r t (by simpa using hl))
  | _, _, _, _, .nil, .cons _ _, hl => by simp at hl
  | _, _, _, _, .int _, .nil, hl => by simp at hl
  | _, _, _, _, .str _, .nil, hl => by simp at hl
theorem dks_len : ∀ {kes : List (Option Expr)} {ks : List Key}, DKs X kes ks → kes.length = ks.length ∧ kes.all (·.isSome) = true
  | _, _, .nil => ⟨rfl, rfl⟩
  | _, _, .int r => ⟨congrArg Nat.succ (dks_len r).1, by simpa using (dks_len r).2⟩
  | _, _, .str r => ⟨congrArg Nat.succ (dks_len r).1, by simpa using (dks_len r).2⟩
theorem dvs_len : ∀ {ves : List Expr} {fs : List Ev}, DVs X g W ves fs → ves.length = fs.length
  | _, _, .nil => rfl
  | _, _, .cons _ r => congrArg Nat.succ (dvs_len r)
def eDct (ks : List Key) (fs : List Ev) : Ev := fun e S => (aList fs e S).bind fun ds S => if ks.Nodup ∧ ks.length ≤ 15 then .ok (.dct ((ks.map keyD).zip ds)) S else .bad
theorem w_pairs : ∀ {ks : List Key} {fs : List Ev}, ks.length = fs.length → ∀ {σ : L2.St} {e : DL.Env} {S : Sto} {M : Mt} {H : Hp} {Q : List (V × V) → Hp → Prop}, Sim g M H S → EnvR g M σ e →
    (aList fs e S).on (kG g (fun M vs ds => Reps g M vs ds ∧ vs.length = ks.length) M H fun vs H1 => Q ((ks.map kV).zip vs) H1) (kX g W M H σ) → tPairs ((ks.zip fs).map fun q => (tC (kV q.1), tE g W q.2)) σ H Q
  | [], [], _, σ, e, S, M, H, Q, s, er, q => kG_here s (Rl := fun M vs ds => Reps g M vs ds ∧ vs.length = 0) (x := ([] : List V)) ⟨.nil, rfl⟩ q
  | k :: ks, f :: fs, hl, σ, e, S, M, H, Q, s, er, q => by
    show tE g W f σ H fun y H2 => tPairs _ σ H2 _
    refine ⟨e, S, M, s, er, seqG q fun v d S1 M1 H1 n1 r1 q1 => ?_⟩
    refine w_pairs (by simpa using hl) n1.sim (er.le n1.le) ?_
    refine Ret.on_mono (Ret.on_bind q1) (fun ds S2 q2 vs M2 H2 n2 r2 => ?_) fun _ _ z => z
    exact q2 (v :: vs) M2 H2 n2 ⟨.cons (r1.le n2.le) r2.1, congrArg Nat.succ r2.2⟩
  | [], _ :: _, hl, _, _, _, _, _, _, _, _, _ => by simp at hl
  | _ :: _, [], hl, _, _, _, _, _, _, _, _, _ => by simp at hl
theorem merge_nodup : ∀ (more kvs : List (Key × V)), (kvs ++ more).map (·.1) |>.Nodup → mergeK kvs more = kvs ++ more
  | [], kvs, _ => by show kvs = kvs ++ []; simp
  | p :: r, kvs, h => by
    have hn : valV kvs p.1 = none := by
      cases e : valV kvs p.1 with
      | none => rfl
      | some v =>
        exfalso
        have hin := valV_in e
        simp only [List.map_append, List.map_cons] at h
        have := (List.nodup_append.mp h).2.2 p.1 hin p.1 List.mem_cons_self
        exact this rfl
    show mergeK (putK kvs p.1 p.2) r = _
    rw [putK_new _ hn]
    have e : kvs ++ [(p.1, p.2)] ++ r = kvs ++ p :: r := by simp
    rw [merge_nodup r _ (by rw [e]; exact h), e]
theorem repK_zip {M : Mt} : ∀ {ks : List Key} {vs : List V} {ds : List D}, Reps g M vs ds → vs.length = ks.length → RepK g M (ks.zip vs) ((ks.map keyD).zip ds)
  | [], [], [], .nil, _ => .nil
  | _ :: _, _ :: _, _ :: _, .cons a r, h => .cons a (repK_zip r (by simpa using h))
  | [], _ :: _, _, _, h => by simp at h
  | _ :: _, [], _, _, h => by simp at h
theorem kd_dK {H : Hp} {a : Addr} {vs : List (Key × V)} (h : H a = some (.dK vs)) : (∀ ps, H a ≠ some (.tbl ps)) ∧ ∀ c q, H a ≠ some (LamX.CodeO c q) := ⟨fun _ z => (by rw [h] at z; (have z := Option.some.inj z; cases z)), fun _ _ z => (by rw [h] at z; (have z := Option.some.inj z; unfold LamX.CodeO at z; cases z))⟩
theorem d_dct {kes : List (Option Expr)} {ves : List Expr} {ks : List Key} {fs : List Ev} (hk : DKs X kes ks) (hv : DVs X g W ves fs) (hl : kes.length = ves.length) (h0 : kes ≠ []) (h15 : kes.length ≤ 15) : PE X (.Dict kes ves pos) (tE g W (eDct ks fs)) := by
  refine (pe_disp (pps_of hk hv hl) (dks_len hk).2 hl h0 h15).weak fun σ H Q ⟨e, S, M, s, er, q⟩ p np => ?_
  obtain ⟨f1, f2⟩ := mem_not s np
  have s1 : Sim g M (upd H p (.dK [])) S := s.off f1 f2 (kd_none np)
  refine w_pairs (by rw [← (dks_len hk).1, hl, dvs_len hv]) s1 er ?_
  refine Ret.on_mono (Ret.on_bind q) (fun ds S2 q2 vs M2 H2 n2 r2 => ?_) fun x S2 z cls od M2 H2 n2 rx => ?_
  · obtain ⟨hn, q2⟩ := ifok q2
    obtain ⟨a1, a2, a3⟩ := n2.away upd_same f1 f2
    refine ⟨a1, ks.zip vs, ?_, ?_, ?_⟩
    · have gen : ∀ (ks : List Key) (vs : List V), (ks.map kV).zip vs = (ks.zip vs).map fun kv => (kV kv.1, kv.2) := by
        intro ks
        induction ks with
        | nil => intro vs; rfl
        | cons k ks ih => intro vs; cases vs with
          | nil => rfl
          | cons v vs => simp [ih]
      exact gen ks vs
    · rw [List.length_zip]
      exact Nat.le_trans (Nat.min_le_left _ _) hn.2
    · have hm : mergeK [] (ks.zip vs) = ks.zip vs := by
        have e1 : ((ks.zip vs).map (·.1)) = ks := List.map_fst_zip (by rw [r2.2]; exact Nat.le_refl _)
        exact merge_nodup (ks.zip vs) [] (by rw [List.nil_append, e1]; exact hn.1)
      rw [hm]
      have le : M2.Le ⟨upd M2.I p (.dK (ks.zip vs)), M2.m⟩ := ⟨fun b u z => by
        show upd M2.I p _ b = _
        rw [upd_ne fun y => by rw [y, a3] at z; cases z]; exact z, [], by simp⟩
      have fr : ∀ b o, H b = some o → b ∉ M.m → ∃ o', upd H2 p (.dK (ks.zip vs)) b = some o' ∧ StO o o' := fun b o h1 h2 => by
        have hb := ne_of_none h1 np
        rw [upd_ne hb]
        exact n2.fr b o (by rw [upd_ne hb]; exact h1) h2
      have nm : ∀ b, upd H p (.dK []) b = none → H b = none := fun b h => by
        by_cases y : b = p
        · rw [y]; exact np
        · rw [upd_ne y] at h; exact h
      refine q2 _ ⟨upd M2.I p (.dK (ks.zip vs)), M2.m⟩ _ ⟨n2.le.trans le, fr, fun b h => (n2.nm b h).imp id (nm b), fun b u z => ?_, ⟨n2.sim.len, n2.sim.nd, fun b u z => ?_, fun b hb => ?_, fun l b mo z1 z2 z3 => ?_, tabs_at n2.sim.tb (kd_dK a1).1 le.I, fun b ps z => ?_, n2.sim.tm⟩⟩ (.dK (show upd M2.I p _ p = _ from upd_same) (repK_zip (r2.1.le le) r2.2))
      · have z : upd M2.I p (.dK (ks.zip vs)) b = some u := z
        by_cases y : b = p
        · exact .inr (.inr (y ▸ np))
        · rw [upd_ne y] at z
          exact (n2.nI b u z).imp id fun h => h.imp id (nm b)
      · have z : upd M2.I p (.dK (ks.zip vs)) b = some u := z
        by_cases y : b = p
        · subst y; rw [upd_same] at z ⊢; exact z
        · rw [upd_ne y] at z ⊢; exact n2.sim.im b u z
      · obtain ⟨o, e⟩ := n2.sim.ex b hb
        exact ⟨o, by rw [upd_ne fun y => a2 (by rw [← y]; exact hb)]; exact e⟩
      · obtain ⟨p1, p2⟩ := n2.sim.lv l b mo z1 z2 z3
        have hb : b ≠ p := fun y => a2 (by rw [← y]; exact List.mem_of_getElem? z1)
        refine ⟨?_, p2.le le fun u z => by rw [upd_ne hb]; exact z⟩
        show upd M2.I p (.dK (ks.zip vs)) b = none
        rw [upd_ne hb]; exact p1
      · have z : upd M2.I p (.dK (ks.zip vs)) b = some (.tbl ps) := z
        by_cases y : b = p
        · subst y; rw [upd_same] at z; cases z
        · rw [upd_ne y] at z; exact n2.sim.nt b ps z
  · obtain ⟨a1, a2, a3⟩ := n2.away upd_same f1 f2
    have nm : ∀ b, upd H p (.dK []) b = none → H b = none := fun b h => by
      by_cases y : b = p
      · rw [y]; exact np
      · rw [upd_ne y] at h; exact h
    exact z cls od M2 H2 ⟨n2.le, fun b o h1 h2 => n2.fr b o (by rw [upd_ne (ne_of_none h1 np)]; exact h1) h2, fun b h => (n2.nm b h).imp id (nm b), fun b u h => (n2.nI b u h).imp id fun h => h.imp id (nm b), n2.sim⟩ rx
end

/-! ### the law's end -/
section
variable {g : G}
theorem reps_ints {M : Mt} : ∀ ns : List Int, Reps g M (ns.map V.int) (ns.map D.int)
  | [] => .nil
  | n :: ns => .cons (.int n) (reps_ints ns)
/-- all but the tables -/
def noTbl (H : Hp) : Hp := fun b => match H b with
  | some (.tbl _) => none
  | r => r
theorem noTbl_of {H : Hp} {b : Addr} {o : HO} (h : H b = some o) (n : ∀ ps, o ≠ .tbl ps) : noTbl H b = some o := by
  unfold noTbl
  rw [h]
  cases o <;> first | rfl | exact absurd rfl (n _)
theorem noTbl_im {H : Hp} {b : Addr} {o : HO} (h : noTbl H b = some o) : H b = some o ∧ ∀ ps, o ≠ .tbl ps := by
  unfold noTbl at h
  cases e : H b with
  | none => rw [e] at h; cases h
  | some u =>
    rw [e] at h
    cases u with
    | tbl ps => cases h
    | _ => cases h; exact ⟨rfl, fun _ z => by cases z⟩
theorem sql_noTbl {K : PySem.W.Frag} {H : Hp} {a : Addr} {vs : List V} (h : SqL K H a vs) : SqL K (noTbl H) a vs := by
  rcases h with (h | ⟨o, h⟩) | h
  · exact .inl (.inl (noTbl_of h fun _ z => by cases z))
  · exact .inl (.inr ⟨o, noTbl_of h fun _ z => by cases z⟩)
  · exact .inr h
/-- the law's def, called with the script -/
theorem law_end {m : Fn} {ns : List Int} {H : Hp} {a : Addr} {S' : Sto} (ht : TabsM g.T H (noTbl H)) (hS : SqL g.K H a (ns.map V.int)) (hm : m [.frz (ns.map .int)] [] = .ok (.bl true) S') :
    spF g 1 m [.ref a] H (fun v _ => v = .bl true) fun _ _ _ => False := by
  refine ⟨[.frz (ns.map .int)], [], ⟨noTbl H, []⟩, rfl, ⟨rfl, List.nodup_nil, fun _ _ h => (noTbl_im h).1, fun a h => (List.not_mem_nil h).elim, fun l a mo h => by simp at h, ht, fun a ps z => (noTbl_im z).2 ps rfl, fun _ _ => List.not_mem_nil⟩, .cons (.frz (sql_noTbl hS) (reps_ints ns)) .nil, ?_⟩
  rw [hm]
  intro v M' H' n r
  cases r
  rfl
theorem cx_none {P : Program} {w : World} (H : Hp) (s : Shared) (e : Value) (s' : Shared) : L2.CX P w [] H s (fun _ _ _ => False) e s' → False := fun h => by
  obtain ⟨_, _, _, _, _, _, _, _, _, _, _, _, z⟩ := h
  exact z
end
/-! ### the head's facts: of defs, and whatever can be looked up -/
abbrev AlX : Type := Bool × List He.FnW
def obsX (chk : PySem.W.Frag → Bool) (fn : List He.DefD) (K : PySem.W.Frag) : AlX := (chk K && fn.all fun d => d.ok K, fn.map fun d => He.fnW K d.at_)
def valX (fn : List He.DefD) : AlX := (true, fn.map He.DefD.val)
def SaysX (chk : PySem.W.Frag → Bool) (fn : List He.DefD) (K : PySem.W.Frag) : Prop := obsX chk fn K = valX fn
def obsXG (n : Nat) (chk : PySem.W.Frag → Bool) (fn : List He.DefD) (g : Addr → Option Obj) : AlX := obsX chk fn (He.frG g (He.asD g n))
def hookX (n : Nat) (chk : PySem.W.Frag → Bool) (fn : List He.DefD) : PySem.W.Hook where
  α := AlX
  obs := fun s => obsXG n chk fn s.heap.get?
  val := fun _ => valX fn
  says := fun _ h => ∃ K : PySem.W.Frag, K.In h ∧ SaysX chk fn K
  of := fun _ _ e => ⟨_, He.frG_in, e⟩
  keeps := fun _ _ _ ⟨K, hK, c⟩ k => ⟨K, PySem.W.Frag.In.keeps hK k, c⟩
theorem obsXG_eq {n : Nat} {chk : PySem.W.Frag → Bool} {fn : List He.DefD} {g : Addr → Option Obj} {s : Shared} (h : ∀ a, g a = s.heap.get? a) : obsXG n chk fn g = (hookX n chk fn).obs s := by
  have e : g = s.heap.get? := funext h
  rw [e]; rfl
section
variable {chk : PySem.W.Frag → Bool} {fn : List He.DefD} {K : PySem.W.Frag}
theorem SaysX.chk_ (c : SaysX chk fn K) : chk K = true := (He.ba (show (chk K && fn.all fun d => d.ok K) = true from congrArg (fun z : AlX => z.1) c)).1
theorem SaysX.def_ (c : SaysX chk fn K) (i : Nat) {d : He.DefD} (h : fn[i]? = some d := by rfl) : ∃ fd, FunD K d.name d.qual d.params d.body d.scope (d.dvs K) (d.kws K) (He.fAd K d.at_) fd := by
  have c2 := (He.ba (show (chk K && fn.all fun d => d.ok K) = true from congrArg (fun z : AlX => z.1) c)).2
  have e : fn.map (fun d => He.fnW K d.at_) = fn.map He.DefD.val := congrArg (fun z : AlX => z.2) c
  have e2 : (fn.map fun d => He.fnW K d.at_)[i]? = (fn.map He.DefD.val)[i]? := by rw [e]
  rw [List.getElem?_map, List.getElem?_map, h] at e2
  exact He.DefD.funD (Option.some.inj e2) (List.all_eq_true.mp c2 d (List.mem_of_getElem? h))
theorem fa_of {fa : List He.Fa} (c : (fa.all fun f => f.ok K) = true) (i : Nat) {f : He.Fa} (h : fa[i]? = some f := by rfl) : f.ok K = true := List.all_eq_true.mp c f (List.mem_of_getElem? h)
end
end DL

namespace DL
open PySem PySem.Spec PyProof.Rows L2

/-- how a call binds: n values by place, the keywords ks, defaults among them -/
structure BindD (K : PySem.W.Frag) (fd : FuncData) (ps : List Str) (n : Nat) (ks : List Str) (gV : List V → List V → List V) : Prop where
  to : ∀ (s : Shared) (us ws : List Value) (vs zs : List V), K.In s.heap → us.length = n → ws.length = ks.length → Vals vs us → Vals zs ws → ∃ bs, BindsTo s fd ⟨us, ks.zip ws⟩ (ps.zip bs) ∧ Vals (gV vs zs) bs
section
variable {K : PySem.W.Frag} {x qual : Str} {params : Arguments} {body : List Stmt} {scope : Scope} {dvs : List V} {kws : List (Str × V)} {f : Addr} {fd : FuncData} {ps : List Str}
theorem bindD_plain (F : FunD K x qual params body scope [] kws f fd) (n : Nat) (ks : List Str) (gg : {α : Type} → List α → List α → List α) (hrel : ∀ {vs zs : List V} {us ws : List Value}, us.length = n → ws.length = ks.length → Vals vs us → Vals zs ws → Vals (gg vs zs) (gg us ws))
    (h : ∀ (kV doc pm : Value) (an : Option Addr) (cdv ct : Value) (us ws : List Value), us.length = n → ws.length = ks.length → bindArgs (PySem.W.fnOf x qual params body scope .none kV doc pm an cdv ct) ⟨us, ks.zip ws⟩ = pure (ps.zip (gg us ws))) :
    BindD K fd ps n ks gg := by
  obtain ⟨oc, od, dV, kV, doc, pm, an, cdv, ct, osl, rfl, lk, hcd, hD, hK⟩ := F.ex
  rcases hD with ⟨_, rfl⟩ | ⟨e, _⟩
  · exact ⟨fun s us ws vs zs X l1 l2 r1 r2 => ⟨gg us ws, .of_eq (h kV doc pm an cdv ct us ws l1 l2), hrel l1 l2 r1 r2⟩⟩
  · exact absurd rfl e
/-- with defaults by place -/
theorem bindD_dfl (F : FunD K x qual params body scope dvs kws f fd) (n : Nat) (ks : List Str) (gg : {α : Type} → List α → List α → List α → List α) (hd : dvs ≠ [])
    (hrel : ∀ {vs zs : List V} {us its ws : List Value}, us.length = n → ws.length = ks.length → Vals vs us → Vals dvs its → Vals zs ws → Vals (gg vs dvs zs) (gg us its ws))
    (h : ∀ (T : Addr) (kV doc pm : Value) (an : Option Addr) (cdv ct : Value) (us its ws : List Value), us.length = n → its.length = dvs.length → ws.length = ks.length →
      ∃ k, bindArgs (PySem.W.fnOf x qual params body scope (.ref T) kV doc pm an cdv ct) ⟨us, ks.zip ws⟩ = seqItems? (.ref T) >>= k ∧ k (some its.toArray) = pure (ps.zip (gg us its ws))) : BindD K fd ps n ks fun vs zs => gg vs dvs zs := by
  obtain ⟨oc, od, dV, kV, doc, pm, an, cdv, ct, osl, rfl, lk, hcd, hD, hK⟩ := F.ex
  rcases hD with ⟨e, _⟩ | ⟨_, T, o, its, m, rfl, lT, oT, rT⟩
  · exact absurd e hd
  · refine ⟨fun s us ws vs zs X l1 l2 r1 r2 => ⟨gg us its ws, ?_, hrel l1 l2 r1 rT r2⟩⟩
    obtain ⟨k, e1, e2⟩ := h T kV doc pm an cdv ct us its ws l1 rT.length.symm l2
    refine BindsTo.of_looks fun M => ?_
    rw [e1]
    exact looks_items X lT oT (.of_pure e2)
end
/-- the rule for a def, its numbers told apart -/
theorem fun_ok {P : Program} {w : World} {K : PySem.W.Frag} {mg : Str → Option Value} {base : Heap} {g : G} {x qual : Str} {params : Arguments} {body : List Stmt} {scope : Scope} {dvs : List V} {kws : List (Str × V)} {f : Addr} {fd : FuncData} {N ps : List Str} {k n kk : Nat} {m : Fn} (fb : Sv)
    (F : FunD K x qual params body scope dvs kws f fd) (S : FnScope N ps scope) (hn : ps.length = n) (hk : N.length = kk) (hm : m = runB kk fb)
    (hbody : ∀ (cdv : Value) (A : Around) (outer : List PySem.Env) (s : Shared) (H : Hp) (E : XK), Room k (A.deeper (envOfC qual scope s.heap.objs.size f cdv)) →
      PSs (cxOf (L2.CX P w) P w K mg base N qual scope f cdv A outer s H E) body (tS g (fun cls d _ H => E cls d H) fb)) : FnOk P w K mg base (L2.CX P w) (k + 1) f fd ps (spF g n m) := by
  subst hn hk hm
  exact FunD_ok F S hbody
section
variable {X : Cx} {g : G} {W : WX} {e : Expr} {es : List Expr} {fr fk : Av} {pos p : Pos} {x : Str} {k n : Nat} {f : Addr} {fd : FuncData} {ps ks : List Str} {N : Nat} {m : Fn} {kws : List Keyword}
def eCallD (np nk N : Nat) (m : Fn) (gD : List D → List D → List D) (fr fk : Av) : Ev := fun e S => (fr e S).bind fun ds S => (fk e S).bind fun zs S => if (ds.length = np ∧ zs.length = nk) ∧ (gD ds zs).length = N then m (gD ds zs) S else .bad
theorem run_fnD {gV : List V → List V → List V} {sp : Sp} {CX : CXT} {E : XK} {pins : List (Addr × Obj)} {σ : L2.St} {H : Hp} {s : Shared} {Q : VK} {us ws : List Value} {vs zs : List V} (F : FnOk X.prog X.w X.K X.mg X.base CX k f fd ps sp) (hr : Room k X.A) (hb : BindD X.K fd ps n ks gV) (hx : PassesAt CX X σ E)
    (I : Inv X pins σ H s) (r : Vals vs us) (rz : Vals zs ws) (l1 : vs.length = n) (l2 : zs.length = ks.length) (h : sp (gV vs zs) H Q E) : wpAny (model X.prog X.w) X.A (call (.ref f) us (ks.zip ws)) (EP X pins σ Q) X.xe s := by
  obtain ⟨bs, hb1, hb2⟩ := hb.to s us ws vs zs I.kIn (r.length.symm.trans l1) (rz.length.symm.trans l2) r rz
  refine wpAny_call (codeAny_mono (F.run X.A X.stack s H ⟨us, ks.zip ws⟩ bs (gV vs zs) Q E hr I.env0 hb1 hb2 h) fun r s' hq => ?_)
  cases r with
  | error e => exact hx pins H s e s' I hq
  | ok fl => cases fl with
    | ret u => exact I.after hq
    | _ => exact False.elim hq
theorem w_callD {gD : List D → List D → List D} {gV : List V → List V → List V} {nk : Nat} (hg : ∀ M vs ds zs es, ds.length = n → es.length = nk → Reps g M vs ds → Reps g M zs es → Reps g M (gV vs zs) (gD ds es)) {σ : L2.St} {H : Hp} {Q : VK} (h : tE g W (eCallD n nk N m gD fr fk) σ H Q) :
    tA g W fr σ H fun vs H1 => tA g W fk σ H1 fun zs H2 => vs.length = n ∧ zs.length = nk ∧ spF g N m (gV vs zs) H2 Q (WE W σ) := by
  obtain ⟨e, S, M, s, er, q⟩ := h
  refine ⟨e, S, M, s, er, seqG q fun vs ds S1 M1 H1 n1 r1 q1 => ?_⟩
  refine ⟨e, S1, M1, n1.sim, er.le n1.le, seqG q1 fun zs es S2 M2 H2 n2 r2 q2 => ?_⟩
  obtain ⟨hl, q2⟩ := ifok q2
  exact ⟨by rw [r1.len]; exact hl.1.1, by rw [r2.len]; exact hl.1.2, _, S2, M2, hl.2, n2.sim, hg _ _ _ _ _ hl.1.1 hl.1.2 (r1.le n2.le) r2, Ret.on_mono q2 (fun _ _ z => z) fun x S2 z cls od M' H' n' rx => z cls od M' H' n' rx⟩
theorem d_callD {gV : List V → List V → List V} {gD : List D → List D → List D} (F : FnOk X.prog X.w X.K X.mg X.base (L2.CX X.prog X.w) k f fd ps (spF g N m)) (hr : Room k X.A) (hg : Gl X x) (hm : X.mg x = some (.ref f)) (hk : PySem.W.keepIn X.K (.ref f) = true) (hb : BindD X.K fd ps n ks gV)
    (hgD : ∀ M vs ds zs es, ds.length = n → es.length = ks.length → Reps g M vs ds → Reps g M zs es → Reps g M (gV vs zs) (gD ds es)) (tk : Takes X W) (ha : PA X (e :: es) (tA g W fr)) (hkw : PK X kws (tA g W fk)) (hall : (backToKw pos (keywordEach kws X.env)).all (·.1.isSome) = true := by rfl) (hks : (backToKw pos (keywordEach kws X.env)).filterMap (·.1) = ks := by rfl)
    (hdb : (x == ("__debug__" : Str)) = false := by decide) (he : starEach (e :: es) X.env = (false, eval e X.env) :: starEach es X.env := by rfl)
    (hpl : ((backTo pos (starEach (e :: es) X.env)).any (·.1) || (backToKw pos (keywordEach kws X.env)).any (·.1.isNone)) = false := by rfl) : PE X (.Call (.Name x p) (e :: es) kws pos) (tE g W (eCallD n ks.length N m gD fr fk)) := by
  refine ⟨fun pins s σ H Q I h => ?_⟩
  have h := w_callD hgD h
  refine wpAny_Call_Name_kw (ld_glob I hg hm ?_ hdb)
  refine PySem.W.callWith_KW (h₀ := X.base) I.ok.mod.kin hk hall (thn (ha.run pos pins s σ H _ I h) fun us s1 ⟨vs, H1, I1, r, q⟩ => ?_) hpl he
  refine thn (hkw.run pos pins s1 σ H1 _ I1 q) fun ws s2 ⟨zs, H2, I2, rz, l1, l2, q2⟩ => ⟨I2.kIn, ?_⟩
  rw [hks]; exact run_fnD F hr hb (passAt tk σ) I2 r rz l1 l2 q2
theorem d_callD0 {gV : List V → List V → List V} {gD : List D → List D → List D} (F : FnOk X.prog X.w X.K X.mg X.base (L2.CX X.prog X.w) k f fd ps (spF g N m)) (hr : Room k X.A) (hg : Gl X x) (hm : X.mg x = some (.ref f)) (hk : PySem.W.keepIn X.K (.ref f) = true) (hb : BindD X.K fd ps 0 ks gV)
    (hgD : ∀ M vs ds zs es, ds.length = 0 → es.length = ks.length → Reps g M vs ds → Reps g M zs es → Reps g M (gV vs zs) (gD ds es)) (tk : Takes X W) (hkw : PK X kws (tA g W fk)) (hall : (backToKw pos (keywordEach kws X.env)).all (·.1.isSome) = true := by rfl) (hks : (backToKw pos (keywordEach kws X.env)).filterMap (·.1) = ks := by rfl)
    (hdb : (x == ("__debug__" : Str)) = false := by decide) (hpl : ((backTo pos (starEach [] X.env)).any (·.1) || (backToKw pos (keywordEach kws X.env)).any (·.1.isNone)) = false := by rfl) : PE X (.Call (.Name x p) [] kws pos) (tE g W (eCallD 0 ks.length N m gD aNil fk)) := by
  refine ⟨fun pins s σ H Q I h => ?_⟩
  obtain ⟨e, S, M, sm, er, q⟩ := w_callD (n := 0) (fr := aNil) hgD h
  have q := q [] M H (.refl sm) .nil
  refine wpAny_Call_Name_kw (ld_glob I hg hm ?_ hdb)
  refine PySem.W.callWith_KW0 (h₀ := X.base) I.ok.mod.kin hk hall (thn (hkw.run pos pins s σ H _ I q) fun ws s2 ⟨zs, H2, I2, rz, l1, l2, q2⟩ => ⟨I2.kIn, ?_⟩) hpl
  rw [hks]; exact run_fnD F hr hb (passAt tk σ) I2 .nil rz l1 l2 q2
end
/-- the end of a law: the top's facts, the mirror's word; cs: the code objects that make lambdas, and their tables -/
theorem law_walkT {l : PySem.W.OpenLaw} {k : Nat} {q : Program} {loose : List Str} {XP : (Str → Option Value) → Heap → Prop} {YP : World → Heap → Prop} {d : DefRec} {x : Str}
    (most : l.most = some 63) (dfl : d.params.defaults = []) (room : Room k callerA)
    (top : ∀ (w : World) (mg : Str → Option Value) (fa : Addr) (h : Heap), YP w h → h.Ns mainGlobals mg → mg d.name = some (.ref fa) →
      ∃ (g : G) (fd : FuncData) (m : Fn) (cs : List (Addr × Addr)), g.K.In h ∧ (∀ (s : Shared) (u : Value), BindsTo s fd ⟨[u], []⟩ [(x, u)]) ∧
        (∀ ns : List Int, ns.length ≤ 63 → ∃ S', m [.frz (ns.map .int)] [] = .ok (.bl true) S') ∧
        (∀ p ∈ cs, h.get? p.2 = some { cls := .none, data := .fields #[] }) ∧ (∀ p ∈ cs, g.K.lookup p.2 = none) ∧ (∀ p ∈ cs, PySem.W.CodeHd h p.1 p.2) ∧ (∀ t ∈ g.T, ∃ p ∈ cs, p.2 = t.1) ∧
        ∀ base : Heap, g.K.In base → base.Ns mainGlobals mg → (∀ p ∈ cs, LamX.TabB base mg p.1 p.2) → FnOk l.prog w g.K mg base (L2.CX l.prog w) k fa fd [x] (spF g 1 m)) :
    PySem.W.WalkO q loose XP YP l.row.toRowW d [] (fun f vs => PySem.call f vs) := by
  refine Att.attach_call most dfl fun w s₀ s mg mb fa ob pm cd doc a vs ns gr hy ho hd hc hmg hob his hlen hgens => ?_
  obtain ⟨g, fd, m, cs, hk, hb, hm, hT, nT, hC, hgT, hF⟩ := top w mg fa _ hy gr.T.g hmg
  refine LamX.law_callTs (sp := spF g 1 m) hk gr.T.g gr.T.b gr.T.builtins gr.T.nolimit hgens hT nT hC gr.T.bmain hob his (Nat.le_trans hlen (by decide)) room hF hb (fun H hH hS => ?_) fun H e s' z => cx_none H s e s' z
  obtain ⟨S', e⟩ := hm ns hlen
  refine law_end (fun t ht => ?_) hS e
  obtain ⟨p, hp, ep⟩ := hgT t ht
  exact ⟨#[], by rw [← ep]; exact hH p hp, True.intro, fun pos cv hc => by simp [codeAmong] at hc⟩
/-- the same without lambdas -/
theorem law_walk {l : PySem.W.OpenLaw} {k : Nat} {q : Program} {loose : List Str} {XP : (Str → Option Value) → Heap → Prop} {YP : World → Heap → Prop} {d : DefRec} {x : Str}
    (most : l.most = some 63) (dfl : d.params.defaults = []) (room : Room k callerA)
    (top : ∀ (w : World) (mg : Str → Option Value) (fa : Addr) (h : Heap), YP w h → h.Ns mainGlobals mg → mg d.name = some (.ref fa) →
      ∃ (g : G) (fd : FuncData) (m : Fn), g.T = [] ∧ g.K.In h ∧ (∀ (s : Shared) (u : Value), BindsTo s fd ⟨[u], []⟩ [(x, u)]) ∧
        (∀ ns : List Int, ns.length ≤ 63 → ∃ S', m [.frz (ns.map .int)] [] = .ok (.bl true) S') ∧
        ∀ base : Heap, g.K.In base → base.Ns mainGlobals mg → FnOk l.prog w g.K mg base (L2.CX l.prog w) k fa fd [x] (spF g 1 m)) :
    PySem.W.WalkO q loose XP YP l.row.toRowW d [] (fun f vs => PySem.call f vs) :=
  law_walkT most dfl room fun w mg fa h hy hn hm => by
    obtain ⟨g, fd, m, hT, hk, hb, hm2, hF⟩ := top w mg fa h hy hn hm
    exact ⟨g, fd, m, [], hk, hb, hm2, fun p hp => absurd hp (by simp), fun p hp => absurd hp (by simp), fun p hp => absurd hp (by simp), fun t ht => absurd ht (by rw [hT]; simp), fun base h1 h2 _ => hF base h1 h2⟩
end DL

/-! DM1: {x!r} of atoms, and of lists and tuples of atoms, whatever is under way: some bounded text. -/
namespace PySem
open Sem PySem.Spec PyProof.Rows
theorem dm_list_head {M : Model} {A : Around} {E : Value → Shared → Prop} {s : Shared} {Q : Fin → Shared → Prop} {a : Addr} {o : Obj} {x : Value} {l : List Value} {n} {b : Nat}
    (hget : s.heap.get? a = some o) (hd : o.data = .seq (x :: l).toArray n)
    (h : wpAny M A (do again (.builtin "list.__repr__.loop" ⟨[.ref a, rawInt 0, ← newList [], rawInt b], []⟩)) Q E s)
    (h2 : wpAny M A (do rule "list.__repr__.in-itself"; retStr "[...]") Q E s) : wpAny M A (Builtin.listReprAt b ⟨[.ref a], []⟩) Q E s := by
  intro Γ p hΓ
  have h1 := h Γ p hΓ
  have h3 := h2 Γ p hΓ
  unfold Builtin.listReprAt
  simp [slotArgs, Builtin.List.listItems, seqItems?, wp_load_of (h := hget), hd, stack]
  show wp M Γ (if (Γ.below.any _) = true then _ else _) _ _ p s
  split
  · simpa using h3
  · exact h1
section
variable {prog : Program} {w : World} {A : Around} {E : Value → Shared → Prop} {s : Shared} {a : Addr}
theorem dm_call_list {oa : Obj} {vs : Array Value} {na : Nat} {ts : List Str} {Q : Value → Shared → Prop} (hTy : s.TypeIs (.ref a) "list") (ha : s.heap.get? a = some oa) (hda : oa.data = .seq vs na) (hlen : ts.length = vs.size)
    (hT : ∀ (i : Nat) (y : Value), vs[i]? = some y → ∃ t, ts[i]? = some t ∧ ReprIs prog w y t) (hsz : (listText ts).length ≤ sizeLine)
    (h : ∀ (m : Str) (u tk : Tok) (h' : Heap), (∀ b o, s.heap.get? b = some o → h'.get? b = some o) → m.length ≤ (listText ts).length + 5 → Q (.str m u) { s with heap := h', toks := tk }) :
    wpAny (model prog w) A (call (.builtin "list.__repr__") [.ref a]) Q E s := by
  obtain ⟨l⟩ := vs
  cases l with
  | nil =>
    refine call_list_repr_empty hTy ha hda (h "[]" _ _ s.heap (fun _ _ e => e) ?_)
    have : ("[]" : Str).length = 2 := by decide +kernel
    omega
  | cons x l =>
    refine wpAny_call (codeAny_call_builtin F.slot_list_repr.plain F.entry_list_repr (F.slot_list_repr.check _ _ _ _ _ _ _ _ hTy (F.args_list_repr_1 _) ?_))
    refine dm_list_head (b := 0) ha hda ?_ ?_
    · refine wpAny_bind (m := newList []) (wpAny_newObj_type ?_)
      refine wpAny_pure ⟨F.quiet_list_repr_loop _, ?_⟩
      refine codeAny_list_repr_start (P := s.heap.objs.size) (b := 0) (Nat.ne_of_lt (Heap.lt_size ha)) hlen hT (Heap.get?_push_of_some _ ha) hda (Heap.get?_push_size _ rfl) (fun h' u tk hk => ?_) (by omega)
      exact h _ _ _ h' (fun b o e => hk b o (Nat.ne_of_lt (Heap.lt_size e)) (Heap.get?_push_of_some _ e)) (Nat.le_add_right _ _)
    · refine wpAny_bind (wpAny_rule ?_)
      have hl : ("[...]" : Str).length = 5 := by decide +kernel
      refine wpAny_bind (wpAny_mkStr (wpAny_pure ?_) (by decide +kernel))
      exact h "[...]" _ _ s.heap (fun _ _ e => e) (by omega)
theorem dm_text (ts : List Str) : (listText ts).length ≤ piled ts + 2 := by
  have e1 : ((("[" : String) : Str)).length = 1 := rfl
  have h : (listText ts).length = (textFrom 0 "[" ts).length + 1 := by
    show (textFrom 0 "[" ts ++ "]").length = _
    rw [strLen_append]; rfl
  have gen : ∀ (ts : List Str) (k : Nat) (acc : Str), (textFrom k acc ts).length ≤ acc.length + piled ts := by
    intro ts
    induction ts with
    | nil => intro k acc; show acc.length ≤ _; omega
    | cons t ts ih =>
      intro k acc
      show (textFrom (k + 1) (acc ++ (if k > 0 then ", " else "" : String) ++ t) ts).length ≤ _
      refine Nat.le_trans (ih _ _) ?_
      rw [strLen_append, strLen_append, piled_cons]
      have e2 : ((((if k > 0 then ", " else "" : String)) : Str)).length ≤ 2 := by split <;> decide +kernel
      omega
  have := gen ts 0 "["
  omega
end
end PySem
namespace DL
open PySem PySem.Spec PyProof.Rows L2
/-- an atom whose text is short -/
def atomOk : D → Bool
  | .non => true
  | .bl _ => true
  | .int i => decide (i.natAbs.log2 < 200)
  | .str x => decide (x.length ≤ 90) && x.cps.toList.all fun c => decide (c < 4294967296)
  | _ => false
def msgOk (S : Sto) (d : D) : Bool := match der S d with
  | .tup l => decide (l.length ≤ 100) && l.all atomOk
  | .lst l => decide (l.length ≤ 100) && l.all atomOk
  | .frz l => decide (l.length ≤ 100) && l.all atomOk
  | d => atomOk d
section
variable {X : Cx} {g : G} {M : Mt} {H : Hp} {S : Sto} {pins : List (Addr × Obj)} {σ : L2.St} {s : Shared}
theorem short_int {i : Int} (h : i.natAbs.log2 < 200) : (Str.ofString (toString i)).length ≤ 902 := by
  have h1 := int_text_length_le (k := 200) (by omega) h
  rw [PySem.ofString_length]
  omega
theorem short_str {x : Str} (h : (decide (x.length ≤ 90) && x.cps.toList.all fun c => decide (c < 4294967296)) = true) : (reprText x).length ≤ 902 := by
  simp only [Bool.and_eq_true, decide_eq_true_eq, List.all_eq_true] at h
  have := StrLaws.reprText_len x fun c hc => by
    have := h.2 c hc
    have e : (16 : Nat) ^ 8 = 4294967296 := by decide
    omega
  omega
/-- an atom's text -/
theorem atom_repr {v : V} {d : D} {u : Value} (r : Rep g M v d) (h : atomOk d = true) (ru : RelV v u) : ∃ t : Str, t.length ≤ 902 ∧ ReprIs X.prog X.w u t ∧ ∀ (A : Around) (E : Value → Shared → Prop) (s : Shared) (Q : Value → Shared → Prop), (∀ tk tk', Q (.str t tk) { s with toks := tk' }) → wpAny (model X.prog X.w) A (pyReprObj u) Q E s := by
  have hs := sizeLine_eq
  cases r with
  | non =>
    cases ru
    exact ⟨"None", by decide +kernel, ReprIs.none, fun A E s Q q => pyReprObj_none (q _ _)⟩
  | bl b =>
    cases ru
    exact ⟨_, by cases b <;> decide +kernel, ReprIs.bool b, fun A E s Q q => pyReprObj_bool (q _ _)⟩
  | int i =>
    obtain ⟨t, rfl⟩ := ru
    have h : i.natAbs.log2 < 200 := of_decide_eq_true h
    exact ⟨_, short_int h, ReprIs.int t (by omega), fun A E s Q q => pyReprObj_int (by omega) (q _ _)⟩
  | str x =>
    obtain ⟨t, rfl⟩ := ru
    have h1 := short_str h
    exact ⟨_, h1, ReprIs.str x t (by omega), fun A E s Q q => pyReprObj_str (q _ _) (by omega)⟩
  | _ => cases h
theorem atoms_repr : ∀ {vs : List V} {ds : List D} {us : List Value}, Reps g M vs ds → ds.all atomOk = true → Vals vs us → ∃ ts : List Str, ReprAll X.prog X.w us ts ∧ piled ts ≤ 904 * ds.length
  | _, _, _, .nil, _, r => by
    cases r
    exact ⟨[], .nil, by simp [piled]⟩
  | _, _, _, .cons a b, h, r => by
    cases r with
    | cons r1 r2 =>
      rw [List.all_cons, Bool.and_eq_true] at h
      obtain ⟨t, h1, h2, _⟩ := atom_repr (X := X) a h.1 r1
      obtain ⟨ts, h3, h4⟩ := atoms_repr b h.2 r2
      exact ⟨t :: ts, .cons h2 h3, by rw [piled_cons, List.length_cons]; omega⟩
theorem reprAll_at {prog : Program} {w : World} : ∀ {l : List Value} {ts : List Str}, ReprAll prog w l ts → ∀ (i : Nat) (y : Value), l[i]? = some y → ∃ t, ts[i]? = some t ∧ ReprIs prog w y t
  | _, _, .nil, i, y, h => by simp at h
  | _, _, .cons a b, 0, y, h => by simp at h; subst h; exact ⟨_, rfl, a⟩
  | _, _, .cons a b, i + 1, y, h => by simpa using reprAll_at b i y (by simpa using h)
/-- {x!r}: some text -/
def tMsg (g : G) (te : TE) : TE := fun σ H Q => te σ H fun x H1 => ∃ (d : D) (S : Sto) (M : Mt), Sim g M H1 S ∧ Rep g M x d ∧ msgOk S d = true ∧ ∀ m : Str, m.length ≤ 100000 → Q (.str m) H1
theorem pe_msg {e : Expr} {te : TE} {pos : Pos} {k : Nat} (hK : g.K = X.K) (hr : Room k X.A) (he : PE X e te) : PE X (.FormattedValue e 114 none pos) (tMsg g te) := by
  refine ⟨fun pins s σ H Q I h => ?_⟩
  have hs := sizeLine_eq
  have hu : X.A.units < cLine := by have := hr.un; omega
  refine wpAny_FormattedValue_repr (thn (he.run pins s σ H _ I h) fun u s1 hv => ?_)
  obtain ⟨x, H1, I1, r1, d, S, M, sm, rd, hm, q⟩ := hv
  have rn := rep_der sm rd
  have fin : ∀ (m : Str) (tk tk' : Nat) (h' : Heap), (∀ b o, s1.heap.get? b = some o → h'.get? b = some o) → m.length ≤ 100000 →
      wpAny (model X.prog X.w) X.A (formatField (.str m tk) Str.empty) (EP X pins σ Q) X.xe { s1 with heap := h', toks := tk' } := fun m tk tk' h' hk hl =>
    wpAny_formatField_str ⟨.str m, H1, I1.kept (t' := tk') hk, ⟨_, rfl⟩, q m hl⟩ ⟨.str m, H1, I1.kept (t' := tk' + 1) hk, ⟨_, rfl⟩, q m hl⟩ (by omega)
  have seq : ∀ (a : Addr) (l : List D) (vs : List V), (SqT g.K H1 a vs ∨ SqL g.K H1 a vs) → Reps g (M.now H1) vs l → (decide (l.length ≤ 100) && l.all atomOk) = true → u = .ref a →
      wpAny (model X.prog X.w) X.A (pyReprObj u) (fun r s₂ => wpAny (model X.prog X.w) X.A (formatField r Str.empty) (EP X pins σ Q) X.xe s₂) X.xe s1 := by
    intro a l vs hsq rl hl eu
    subst eu
    rw [Bool.and_eq_true, decide_eq_true_eq] at hl
    rcases hsq with hsq | hsq
    · obtain ⟨its, rv, ⟨o, ho, hc, n, hd⟩, _⟩ := I1.tuple (hK ▸ hsq)
      obtain ⟨ts, h1, h2⟩ := atoms_repr (X := X) rl hl.2 rv
      have ht := fmt_text ts
      refine wpAny_pyReprObj_slot hu ⟨o, ho, hc⟩ F.slot_tuple_repr (fmt_tuple_repr ho hc hd (by simpa using h1) (by omega) fun m u tk hm => ⟨m, u, rfl, fin m u tk s1.heap (fun _ _ e => e) (by omega)⟩)
    · obtain ⟨its, rv, ⟨o, n, ho, hc, _, hd⟩, _⟩ := I1.list (hK ▸ hsq)
      obtain ⟨ts, h1, h2⟩ := atoms_repr (X := X) rl hl.2 rv
      have ht := dm_text ts
      refine wpAny_pyReprObj_slot hu ⟨o, ho, hc⟩ F.slot_list_repr.toG (dm_call_list ⟨o, ho, hc⟩ ho hd (by simpa using h1.length_eq) (fun i y e => reprAll_at h1 i y (by simpa using e)) (by omega) fun m u tk h' hk hm => ⟨m, u, rfl, fin m u tk h' hk (by omega)⟩)
  unfold msgOk at hm
  split at hm
  · rename_i l e
    rw [e] at rn
    cases rn with
    | tup a b => exact seq _ _ _ (.inl a) b hm r1
  · rename_i l e
    rw [e] at rn
    cases rn with
    | lst a b => exact seq _ _ _ (.inr (.inl (.inl a))) b hm r1
  · rename_i l e
    rw [e] at rn
    cases rn with
    | frz a b => exact seq _ _ _ (.inr a) b hm r1
  · obtain ⟨t, h1, _, h2⟩ := atom_repr (X := X) rn hm r1
    exact h2 _ _ _ _ fun tk tk' => fin t tk tk' s1.heap (fun _ _ e => e) (by omega)
/-- the parts of a message: written texts, and parameters at slots -/
inductive MParts (X : Cx) : List Expr → List Nat → Prop where
  | nil : MParts X [] []
  | txt {c : Str} {j : Nat} {p : Pos} {es : List Expr} {is : List Nat} (h : c.length ≤ 1000) (r : MParts X es is) : MParts X (.Constant (.str c) j p :: es) is
  | arg {e : Expr} {p : Pos} {es : List Expr} {i : Nat} {is : List Nat} (h : PE X e (tVar i)) (r : MParts X es is) : MParts X (.FormattedValue e 114 none p :: es) (i :: is)
/-- some text, made of the values at the slots is -/
def tMsgs (g : G) (is : List Nat) : TE := fun σ H Q => ∃ (S : Sto) (M : Mt), Sim g M H S ∧ (∀ i ∈ is, ∃ (v : V) (d : D), σ[i]? = some (some v) ∧ Rep g M v d ∧ msgOk S d = true) ∧ ∀ m : Str, Q (.str m) H
theorem msg_parts {k : Nat} (hK : g.K = X.K) (hr : Room k X.A) : ∀ {es : List Expr} {is : List Nat}, MParts X es is → ∃ ts : List TE, PJ X es ts ∧ ∀ (σ : L2.St) (H : Hp) (S : Sto) (M : Mt) (acc : Str) (Q : Str → Hp → Prop), Sim g M H S →
    (∀ i ∈ is, ∃ (v : V) (d : D), σ[i]? = some (some v) ∧ Rep g M v d ∧ msgOk S d = true) → acc.length + 100000 * es.length ≤ sizeLine → (∀ m : Str, Q m H) → tJs ts acc σ H Q
  | _, _, .nil => ⟨[], .nil, fun σ H S M acc Q s hi hl q => q acc⟩
  | _, _, .txt h r => by
    obtain ⟨ts, h1, h2⟩ := msg_parts hK hr r
    refine ⟨_ :: ts, .cons pe_str h1, fun σ H S M acc Q s hi hl q => ?_⟩
    rw [List.length_cons] at hl
    refine ⟨_, rfl, by rw [strLen_append]; omega, h2 σ H S M _ Q s hi (by rw [strLen_append]; omega) q⟩
  | _, _, .arg h r => by
    obtain ⟨ts, h1, h2⟩ := msg_parts hK hr r
    refine ⟨_ :: ts, .cons (pe_msg (g := g) hK hr h) h1, fun σ H S M acc Q s hi hl q => ?_⟩
    rw [List.length_cons] at hl
    obtain ⟨v, d, e1, e2, e3⟩ := hi _ List.mem_cons_self
    refine ⟨v, e1, d, S, M, s, e2, e3, fun m hm => ⟨m, rfl, by rw [strLen_append]; omega, h2 σ H S M _ Q s (fun i h => hi i (List.mem_cons_of_mem _ h)) (by rw [strLen_append]; omega) q⟩⟩
theorem pe_msgs {v1 v2 : Expr} {rest : List Expr} {is : List Nat} {pos : Pos} {k : Nat} (hK : g.K = X.K) (hr : Room k X.A) (h : MParts X (v1 :: v2 :: rest) is) (hl : rest.length ≤ 10) : PE X (.JoinedStr (v1 :: v2 :: rest) pos) (tMsgs g is) := by
  obtain ⟨ts, h1, h2⟩ := msg_parts hK hr h
  refine (pe_joined h1).weak fun σ H Q ⟨S, M, s, hi, q⟩ => h2 σ H S M _ _ s hi ?_ q
  have hs := sizeLine_eq
  have e0 : Str.empty.length = 0 := rfl
  rw [List.length_cons, List.length_cons]
  omega
end
end DL

/-! DM2: an exception's own __init__: super().__init__(message); self.code = ..; self.x = x, .. -/
namespace DL
open PySem PySem.Spec PyProof.Rows L2 DX NdefX
inductive PutV where
  | txt (c : Str) | slot (i : Nat)
def PutV.val (σ : L2.St) : PutV → Option V
  | .txt c => some (.str c)
  | .slot i => match σ[i]? with
    | some (some v) => some v
    | _ => none
/-- self.f = ..: one behind the other -/
inductive Puts (X : Cx) : List Stmt → List (Str × PutV) → Prop where
  | nil : Puts X [] []
  | txt {e : Expr} {f c : Str} {j : Nat} {p p' pos : Pos} {st : List Stmt} {ps : List (Str × PutV)} (ho : PE X e (tVar 0)) (hs : swapsWith (.Constant (.str c) j p) (some (.Attribute e f p')) pos.line X.env = pure false) (r : Puts X st ps) :
      Puts X (.Assign [.Attribute e f p'] (.Constant (.str c) j p) pos :: st) ((f, .txt c) :: ps)
  | slot {e v : Expr} {f : Str} {i : Nat} {p' pos : Pos} {st : List Stmt} {ps : List (Str × PutV)} (ho : PE X e (tVar 0)) (hv : PE X v (tVar i)) (hs : swapsWith v (some (.Attribute e f p')) pos.line X.env = pure false) (r : Puts X st ps) :
      Puts X (.Assign [.Attribute e f p'] v pos :: st) ((f, .slot i) :: ps)
def putsV (σ : L2.St) : List (Str × PutV) → List (Str × V) → List (Str × V)
  | [], fs => fs
  | (f, p) :: r, fs => match p.val σ with
    | some v => putsV σ r ((f, v) :: fs)
    | none => fs
theorem upd_eq {H : Hp} {a : Addr} {o : HO} (h : H a = some o) : upd H a o = H := by
  funext b
  by_cases hb : b = a
  · rw [hb, upd_same, h]
  · rw [upd_ne hb]
section
variable {X : Cx}
theorem puts_step {σ : L2.St} {f : Str} {tv : TE} {w : V} {D : Ends} {H : Hp} {a C dx : Addr} {tl : List Value} {B newId initId : String} {fs : List (Str × V)} (xt : ExT tl B newId initId) (T : OexT X.K tl newId C) (hw : ∀ (H : Hp) (Q : VK), Q w H → tv σ H Q)
    (h0 : σ[0]? = some (some (.ref a))) (hno : PySem.W.findIn X.K (.ref C) f = some none) (ha : H a = some (exo a C (some dx))) (hd : H dx = some (exd dx fs)) (hl : fs.length ≤ 900) (q : D.nx σ (upd H dx (exd dx ((f, w) :: fs)))) : tPut X.K f (tVar 0) tv D σ H :=
  hw _ _ ⟨.ref a, h0, a, C, tl, B, newId, initId, rfl, xt, T, hno, .inr ⟨dx, fs, ha, hd, hl, q⟩⟩
theorem puts_run : ∀ {st : List Stmt} {ps : List (Str × PutV)}, Puts X st ps → ∃ t, PSs X st t ∧ ∀ (D : Ends) (σ : L2.St) (H : Hp) (a C dx : Addr) (tl : List Value) (B newId initId : String) (fs : List (Str × V)), ExT tl B newId initId → OexT X.K tl newId C → σ[0]? = some (some (.ref a)) →
    (∀ p ∈ ps, PySem.W.findIn X.K (.ref C) p.1 = some none) → (∀ p ∈ ps, (p.2.val σ).isSome = true) → H a = some (exo a C (some dx)) → H dx = some (exd dx fs) → dx ≠ a → fs.length + ps.length ≤ 900 → D.nx σ (upd H dx (exd dx (putsV σ ps fs))) → t D σ H
  | _, _, .nil => ⟨_, pss_nil, fun D σ H a C dx tl B n i fs xt T h0 hf hv ha hd ne hl q => by
      have q : D.nx σ (upd H dx (exd dx fs)) := q
      rw [upd_eq hd] at q
      exact q⟩
  | _, _, .txt (f := f) (c := c) ho hs r => by
    obtain ⟨t, h1, h2⟩ := puts_run r
    refine ⟨_, pss_cons (ps_put (p := ⟨0, 0, 0, 0⟩) ho pe_str hs) h1, fun D σ H a C dx tl B n i fs xt T h0 hf hv ha hd ne hl q => ?_⟩
    rw [List.length_cons] at hl
    refine puts_step xt T (fun H Q z => z) h0 (hf _ List.mem_cons_self) ha hd (by omega) ?_
    refine h2 D σ _ a C dx tl B n i _ xt T h0 (fun p hp => hf p (List.mem_cons_of_mem _ hp)) (fun p hp => hv p (List.mem_cons_of_mem _ hp)) (by rw [upd_ne (Ne.symm ne)]; exact ha) upd_same ne (by rw [List.length_cons]; omega) ?_
    rw [upd_upd]
    exact q
  | _, _, .slot (f := f) (i := i) (ps := ps) ho hv' hs r => by
    obtain ⟨t, h1, h2⟩ := puts_run r
    refine ⟨_, pss_cons (ps_put (p := ⟨0, 0, 0, 0⟩) ho hv' hs) h1, fun D σ H a C dx tl B n i' fs xt T h0 hf hv ha hd ne hl q => ?_⟩
    rw [List.length_cons] at hl
    have hv1 := hv _ List.mem_cons_self
    cases e : σ[i]? with
    | none => simp [PutV.val, e] at hv1
    | some o =>
      cases o with
      | none => simp [PutV.val, e] at hv1
      | some w =>
        refine puts_step (w := w) xt T (fun H Q z => ⟨w, e, z⟩) h0 (hf _ List.mem_cons_self) ha hd (by omega) ?_
        refine h2 D σ _ a C dx tl B n i' _ xt T h0 (fun p hp => hf p (List.mem_cons_of_mem _ hp)) (fun p hp => hv p (List.mem_cons_of_mem _ hp)) (by rw [upd_ne (Ne.symm ne)]; exact ha) upd_same ne (by rw [List.length_cons]; omega) ?_
        rw [upd_upd]
        have e2 : putsV σ ((f, .slot i) :: ps) fs = putsV σ ps ((f, w) :: fs) := by
          show (match PutV.val σ (.slot i) with | some v => _ | none => _) = _
          simp only [PutV.val, e]
        rw [e2] at q
        exact q
/-- the first put makes the dict -/
theorem first_run {e : Expr} {f c : Str} {j : Nat} {p p' pos : Pos} {st : List Stmt} {ps : List (Str × PutV)} (ho : PE X e (tVar 0)) (hs : swapsWith (.Constant (.str c) j p) (some (.Attribute e f p')) pos.line X.env = pure false) (r : Puts X st ps) :
    ∃ t, PSs X (.Assign [.Attribute e f p'] (.Constant (.str c) j p) pos :: st) t ∧ ∀ (D : Ends) (σ : L2.St) (H : Hp) (a C : Addr) (tl : List Value) (B newId initId : String), ExT tl B newId initId → OexT X.K tl newId C → σ[0]? = some (some (.ref a)) →
    PySem.W.findIn X.K (.ref C) f = some none → (∀ p ∈ ps, PySem.W.findIn X.K (.ref C) p.1 = some none) → (∀ p ∈ ps, (p.2.val σ).isSome = true) → H a = some (exo a C none) → ps.length ≤ 800 →
    (∀ dx, H dx = none → dx ≠ a → D.nx σ (upd (upd H a (exo a C (some dx))) dx (exd dx (putsV σ ps [(f, .str c)])))) → t D σ H := by
  obtain ⟨t, h1, h2⟩ := puts_run r
  refine ⟨_, pss_cons (ps_put (p := ⟨0, 0, 0, 0⟩) ho pe_str hs) h1, fun D σ H a C tl B n i xt T h0 hf0 hf hv ha hl q => ?_⟩
  refine ⟨.ref a, h0, a, C, tl, B, n, i, rfl, xt, T, hf0, .inl ⟨ha, fun dx hdx ne => ?_⟩⟩
  refine h2 D σ _ a C dx tl B n i [(f, .str c)] xt T h0 hf hv upd_same (by rw [upd_ne ne, upd_same]) ne (by simp; omega) ?_
  have e : upd (upd (upd H dx (exd dx [(f, .str c)])) a (exo a C (some dx))) dx (exd dx (putsV σ ps [(f, .str c)])) = upd (upd H a (exo a C (some dx))) dx (exd dx (putsV σ ps [(f, .str c)])) := by
    funext b
    by_cases hb : b = dx
    · rw [hb, upd_same, upd_same]
    · rw [upd_ne hb, upd_ne hb]
      by_cases hb2 : b = a
      · rw [hb2, upd_same, upd_same]
      · rw [upd_ne hb2, upd_ne hb2, upd_ne hb]
  rw [e]
  exact q dx hdx ne
end
/-- the promise of an exception's __init__: a message of the values at is; the attributes -/
def spXI (g : G) (C : Addr) (N : List Str) (is : List Nat) (cd : Str) (ps : List (Str × PutV)) (n : Nat) : Sp := fun vs H Q _ => ∃ (a : Addr) (S : Sto) (M : Mt), vs.length = n ∧ vs[0]? = some (.ref a) ∧ H a = some (exo a C none) ∧ Sim g M H S ∧
  (∀ i ∈ is, ∃ (v : V) (d : D), (startF N vs [none])[i]? = some (some v) ∧ Rep g M v d ∧ msgOk S d = true) ∧ (∀ p ∈ ps, (p.2.val (startF N vs [none])).isSome = true) ∧
  ∀ dx, H dx = none → dx ≠ a → Q .non (upd (upd H a (exo a C (some dx))) dx (exd dx (putsV (startF N vs [none]) ps [("code", .str cd)])))
theorem xinit_ok {P : Program} {w : World} {K : PySem.W.Frag} {mg : Str → Option Value} {base : Heap} {g : G} {k : Nat} {C f cc cda : Addr} {B newId initId : String} {tl : List Value} {name qual : Str} {params : Arguments} {rest : List Stmt} {scope : Scope} {fd : FuncData} {N ps : List Str}
    {te e : Expr} {p0 p1 p2 p3 p4 p5 p6 p7 : Pos} {pl : Sem Bool} {is : List Nat} {cd : Str} {pv : List (Str × PutV)} {j n : Nat}
    (hK : g.K = K) (Fi : InitF P K C B initId name qual params (.Expr (.Call (.Attribute (.Call (.Name "super" p0) [] [] p1) "__init__" p2) [te] [] p3) p4 :: .Assign [.Attribute e "code" p5] (.Constant (.str cd) j p6) p7 :: rest) scope f cc cda fd) (S : NScope N ps ["__class__"] scope) (xt : ExT tl B newId initId) (T : OexT K tl newId C)
    (hsup : scope.names.lookup ("super" : Str) = some .globalImplicit) (hm : mg "super" = none) (hself : ∃ ar : Arg, (params.posonlyargs ++ params.args).head? = some ar ∧ ps[0]? = some ar.arg)
    (htop : (P.main.scope.names.lookup ("super" : Str)).isSome = false) (hn : ps.length = n) (hpv : pv.length ≤ 10)
    (hf0 : PySem.W.findIn K (.ref C) "code" = some none) (hf : ∀ p ∈ pv, PySem.W.findIn K (.ref C) p.1 = some none)
    (hmsg : ∀ (A : Around) (outer : List PySem.Env) (s : Shared) (H : Hp) (E : XK), Room k (A.deeper (envF (nfOf name qual params (.Expr (.Call (.Attribute (.Call (.Name "super" p0) [] [] p1) "__init__" p2) [te] [] p3) p4 :: .Assign [.Attribute e "code" p5] (.Constant (.str cd) j p6) p7 :: rest) scope cc cda) f s.heap.objs.size)) →
      PE (ncx (L2.CX P w) P w K mg base N (nfOf name qual params (.Expr (.Call (.Attribute (.Call (.Name "super" p0) [] [] p1) "__init__" p2) [te] [] p3) p4 :: .Assign [.Attribute e "code" p5] (.Constant (.str cd) j p6) p7 :: rest) scope cc cda) f A outer s H E) te (tMsgs g is))
    (hput : ∀ (A : Around) (outer : List PySem.Env) (s : Shared) (H : Hp) (E : XK), PE (ncx (L2.CX P w) P w K mg base N (nfOf name qual params (.Expr (.Call (.Attribute (.Call (.Name "super" p0) [] [] p1) "__init__" p2) [te] [] p3) p4 :: .Assign [.Attribute e "code" p5] (.Constant (.str cd) j p6) p7 :: rest) scope cc cda) f A outer s H E) e (tVar 0) ∧
      Puts (ncx (L2.CX P w) P w K mg base N (nfOf name qual params (.Expr (.Call (.Attribute (.Call (.Name "super" p0) [] [] p1) "__init__" p2) [te] [] p3) p4 :: .Assign [.Attribute e "code" p5] (.Constant (.str cd) j p6) p7 :: rest) scope cc cda) f A outer s H E) rest pv)
    (hsw : ∀ env : PySem.Env, swapsWith (.Constant (.str cd) j p6) (some (.Attribute e "code" p5)) p7.line env = pure false := by intro _; rfl)
    (he : ∀ env : PySem.Env, eval (.Call (.Attribute (.Call (.Name "super" p0) [] [] p1) "__init__" p2) [te] [] p3) env = (do
      let ov ← attributeBase (.Call (.Name "super" p0) [] [] p1) "__init__" env (eval (.Call (.Name "super" p0) [] [] p1) env)
      standAt p2.atName
      let (f, first) ← holding [ov] (getMethod ov "__init__" pl)
      callWith p3 f first (backTo p3 (starEach [te] env)) []) := by intro env; rfl)
    (hst : ∀ env : PySem.Env, starEach [te] env = [(false, eval te env)] := by intro env; rfl) :
    FnOk P w K mg base (L2.CX P w) (k + 1) f fd ps (spXI g C N is cd pv n) := by
  refine init_fn (self := "self") Fi S xt T hsup hm hself htop (fun vs H Q E ⟨_, _, _, h, _⟩ => by rw [h, hn]) (fun A outer s H vs Q E hr ⟨a, S0, M, hl, h0, ha, sm, hi, hv, q⟩ => ?_) he hst
  obtain ⟨pe0, pr⟩ := hput A outer s H E
  obtain ⟨t, h1, h2⟩ := first_run pe0 (hsw _) pr
  have h00 : (startF N vs [none])[0]? = some (some (.ref a)) := by
    unfold startF
    have hlt : 0 < vs.length := (List.getElem?_eq_some_iff.mp h0).1
    rw [List.getElem?_append_left (by simpa using hlt), List.getElem?_map, h0]; rfl
  refine ⟨a, _, t, h0, ha, pa_cons (hmsg A outer s H E hr) pa_nil (hst _ ▸ rfl), h1, ?_⟩
  refine ⟨S0, M, sm, hi, fun m => ⟨by simp, ha, ?_⟩⟩
  exact h2 _ _ H a C tl B newId initId xt T h00 hf0 hf hv ha (by omega) fun dx hdx ne => q dx hdx ne
end DL

/-! DM3: raise C(e, ..), C an exception class of the text at any distance from a built-in one. -/
namespace DL
open PySem PySem.Spec PyProof.Rows L2 DX NdefX
section
variable {X : Cx} {x : Str} {e : Expr} {es : List Expr} {ta : TA} {p pos : Pos} {C fI : Addr} {k : Nat} {fd : FuncData} {ps : List Str} {sp : Sp} {tl : List Value} {B newId initId : String}
/-- the class is called: what its __init__ leaves, raw -/
theorem xcall_run {pins : List (Addr × Obj)} {σ : L2.St} {H1 : Hp} {s1 : Shared} {us : List Value} {vs : List V} {Qr : VK} {R : Value → Shared → Prop} (xt : ExT tl B newId initId) (T : OexT X.K tl newId C) (iC : PySem.W.findIn X.K (.ref C) "__init__" = some (some (.ref fI))) (tI : PySem.W.typeIn X.K (.ref fI) = some (.type "function"))
    (F1 : FnOk X.prog X.w X.K X.mg X.base (L2.CX X.prog X.w) k fI fd ps sp) (hr : Room (k + 1) X.A) (hb : Binds X.K fd ps []) (hx : Passes (L2.CX X.prog X.w) X (fun _ _ _ => False)) (I1 : Inv X pins σ H1 s1) (r1 : Vals vs us) (hz : vs.length ≤ 1000)
    (hq : sp (.ref (s1.heap.objs.size + 1) :: vs) (upd H1 (s1.heap.objs.size + 1) (exo (s1.heap.objs.size + 1) C none)) Qr fun _ _ _ => False)
    (fin : ∀ (u : Value) (v : V) (s' : Shared) (H2 : Hp), RelV v u → s'.os = s1.os → AllBare s'.gens → Un (frs X.stack) [] (upd H1 (s1.heap.objs.size + 1) (exo (s1.heap.objs.size + 1) C none)) H2 ((s1.heap.push (PySem.W.kdv_tup us)).push (PySem.HandSPX.excO C s1.heap.objs.size)) s'.heap →
      HOk X.prog X.w H2 s'.heap → Inv X pins σ H2 s' → Qr v H2 → v = .non ∧ R (.ref (s1.heap.objs.size + 1)) s') : wpAny (model X.prog X.w) X.A (call (.ref C) us) R X.xe s1 := by
  obtain ⟨nm, q, N, bs, bm, sn, sub, ab, col, dd, k0, k1, k2, k3, k5, hC, hbm⟩ := T.cls
  obtain ⟨hp, gs, dr, tk, os⟩ := s1
  dsimp only at hq fin
  have up : hp.objs.size ≤ hp.objs.size + 1 := Nat.le_succ _
  have keep : ∀ b o, hp.get? b = some o → ((hp.push (PySem.W.kdv_tup us)).push (PySem.HandSPX.excO C hp.objs.size)).get? b = some o := fun b o z => Heap.get?_push_of_some _ (Heap.get?_push_of_some _ z)
  have new : ((hp.push (PySem.W.kdv_tup us)).push (PySem.HandSPX.excO C hp.objs.size)).get? (hp.objs.size + 1) = some (PySem.HandSPX.excO C hp.objs.size) := by heap_get
  have J : Inv X pins σ (upd H1 (hp.objs.size + 1) (exo (hp.objs.size + 1) C none)) ⟨(hp.push (PySem.W.kdv_tup us)).push (PySem.HandSPX.excO C hp.objs.size), gs, dr, tk, os⟩ :=
    I1.laid (t' := tk) (h' := (hp.push (PySem.W.kdv_tup us)).push (PySem.HandSPX.excO C hp.objs.size)) keep up (exo_ok new)
  have rr : Vals (V.ref (hp.objs.size + 1) :: vs) (Value.ref (hp.objs.size + 1) :: us) := .cons rfl r1
  have hl : (Value.ref (hp.objs.size + 1) :: us).length = ps.length := rr.length.symm.trans (F1.len _ _ _ _ hq)
  have hus : us.length ≤ sizeLine := by
    rw [← Paired.length r1, sizeLine_eq]
    omega
  have hb' := hb ⟨(hp.push (PySem.W.kdv_tup us)).push (PySem.HandSPX.excO C hp.objs.size), gs, dr, tk, os⟩ (Value.ref (hp.objs.size + 1) :: us) J.kIn (by rw [List.append_nil]; exact hl)
  rw [List.append_nil] at hb'
  refine wpAny_call (PySem.HandSPX.call_own xt.base (refsT_has hbm) (I1.kIn _ _ hC) (PySem.W.looks_findIn I1.kIn iC) (fun self => PySem.W.bind_fn I1.kIn self tI) hus ?_)
  refine codeAny_mono (F1.run _ X.stack _ _ ⟨Value.ref (hp.objs.size + 1) :: us, []⟩ _ _ _ _ (hr.make C us []) (J.env0.make C us []) hb' rr hq) fun r s' z => ?_
  cases r with
  | error er => exact hx pins σ _ _ er s' J z
  | ok fl =>
    cases fl with
    | ret u =>
      obtain ⟨v, H2, e1, e2, e3, e4, e5, e6⟩ := z
      obtain ⟨rfl, q2⟩ := fin u v s' H2 e5 e1 e2 e3 e4 (J.call' (ch := []) e1 e3 e4 e2 fun _ z => nomatch z) e6
      exact ⟨e5, q2⟩
    | next => exact False.elim z
    | brk => exact False.elim z
    | cont => exact False.elim z
theorem pmk_xt (xt : ExT tl B newId initId) (T : OexT X.K tl newId C) (iC : PySem.W.findIn X.K (.ref C) "__init__" = some (some (.ref fI))) (tI : PySem.W.typeIn X.K (.ref fI) = some (.type "function"))
    (F1 : FnOk X.prog X.w X.K X.mg X.base (L2.CX X.prog X.w) k fI fd ps sp) (hr : Room (k + 1) X.A) (hb : Binds X.K fd ps []) (hx : Passes (L2.CX X.prog X.w) X (fun _ _ _ => False)) (hg : Gl X x) (hm : X.mg x = some (.ref C)) (ha : PA X (e :: es) ta)
    (hdb : (x == ("__debug__" : Str)) = false := by decide) (he : starEach (e :: es) X.env = (false, eval e X.env) :: starEach es X.env := by rfl) (hpl : (backTo pos (starEach es X.env)).any (·.1) = false := by rfl) :
    PMk X (.Call (.Name x p) (e :: es) [] pos) (tMkO C sp [] ta) := by
  intro pins s σ H Q I h
  refine wpAny_Call_Name_kw (ld_glob I hg hm ?_ hdb)
  refine PySem.W.callWith_K (h₀ := X.base) I.ok.mod.kin T.kC (thn (ha.run pos pins s σ H _ I h) fun us s1 ⟨vs, H1, I1, r1, hz, q1⟩ => ⟨I1.kIn, ?_⟩) he hpl
  have h1 := q1 (s1.heap.objs.size + 1) (I1.hok.fresh (Nat.le_succ _))
  rw [List.append_nil] at h1
  refine xcall_run xt T iC tI F1 hr hb hx I1 r1 hz h1 fun u v s' H2 e5 e1 e2 e3 e4 _ e6 => ?_
  obtain ⟨ev, d, fs, ea, ed, hd1, q2⟩ := e6
  refine ⟨ev, ?_⟩
  obtain ⟨hp, gs, dr, tk, os⟩ := s1
  obtain ⟨h2, g2, d2, t2, os'⟩ := s'
  exact mk_end (raises_own T.exC T.tyC) I1 (Nat.le_succ _) (fun b o z => Heap.get?_push_of_some _ (Heap.get?_push_of_some _ z)) e3 e4 e1 e2 ea ed hd1 q2
end
/-- the attributes from the parameters, from slot i on -/
def pvOf : List Str → Nat → List (Str × PutV)
  | [], _ => []
  | n :: r, i => (n, .slot i) :: pvOf r (i + 1)
theorem pvOf_puts : ∀ (ns : List Str) (ws : List V) (i : Nat) (σ : L2.St) (fs : List (Str × V)), ns.length = ws.length → (∀ j w, ws[j]? = some w → σ[i + j]? = some (some w)) →
    putsV σ (pvOf ns i) fs = (ns.zip ws).reverse ++ fs ∧ ∀ p ∈ pvOf ns i, (p.2.val σ).isSome = true
  | [], [], i, σ, fs, _, _ => ⟨rfl, fun p hp => absurd hp (by simp [pvOf])⟩
  | n :: ns, w :: ws, i, σ, fs, hl, h => by
    have h0 : σ[i]? = some (some w) := h 0 w rfl
    have hv : PutV.val σ (.slot i) = some w := by simp only [PutV.val, h0]
    obtain ⟨e1, e2⟩ := pvOf_puts ns ws (i + 1) σ ((n, w) :: fs) (by simpa using hl) fun j w' hj => by
      have := h (j + 1) w' (by simpa using hj)
      rw [show i + 1 + j = i + (j + 1) by omega]; exact this
    refine ⟨?_, fun p hp => ?_⟩
    · show (match PutV.val σ (.slot i) with | some v => putsV σ (pvOf ns (i + 1)) ((n, v) :: fs) | none => fs) = _
      rw [hv]
      show putsV σ (pvOf ns (i + 1)) ((n, w) :: fs) = _
      rw [e1]
      simp
    · rcases List.mem_cons.mp (show p ∈ (n, PutV.slot i) :: pvOf ns (i + 1) from hp) with hp | hp
      · rw [hp]
        show (PutV.val σ (.slot i)).isSome = true
        rw [hv]; rfl
      · exact e2 p hp
  | [], _ :: _, _, _, _, hl, _ => by simp at hl
  | _ :: _, [], _, _, _, hl, _ => by simp at hl
section
variable {g : G} {M : Mt}
theorem RepF.app : ∀ {fs gs : List (Str × V)} {ds es : List (Str × D)}, RepF g M fs ds → RepF g M gs es → RepF g M (fs ++ gs) (ds ++ es)
  | _, _, _, _, .nil, h => h
  | _, _, _, _, .cons a b, h => .cons a (b.app h)
theorem RepF.rev : ∀ {fs : List (Str × V)} {ds : List (Str × D)}, RepF g M fs ds → RepF g M fs.reverse ds.reverse
  | _, _, .nil => .nil
  | _, _, .cons a b => by
    rw [List.reverse_cons, List.reverse_cons]
    exact b.rev.app (.cons a .nil)
theorem RepF.zip : ∀ {ns : List Str} {vs : List V} {ds : List D}, Reps g M vs ds → RepF g M (ns.zip vs) (ns.zip ds)
  | [], _, _, _ => by simpa using RepF.nil
  | _ :: _, _, _, .nil => .nil
  | n :: ns, _, _, .cons a b => .cons a (RepF.zip b)
end
/-- raise C(..): the class's code c, its word cd, its attributes ns; the message looks at the arguments at is -/
def excD (c : Nat) (cd : Str) (ns : List Str) (ds : List D) : Exc := ⟨c, (ns.zip ds).reverse ++ [(("code" : Str), D.str cd)]⟩
def msgAll (S : Sto) (ds : List D) (is : List Nat) : Bool := is.all fun i => match ds[i]? with
  | some d => msgOk S d
  | none => false
def sRaise (c : Nat) (cd : Str) (ns : List Str) (is : List Nat) (fr : Av) : Sv := fun e S => (fr e S).into e fun ds S => if ds.length = ns.length ∧ msgAll S ds is = true then .exc (excD c cd ns ds) e S else .bad
theorem ifS {p : Prop} [Decidable p] {g : G} {W : WX} {M : Mt} {H : Hp} {D : Ends} {o : Out} (h : kS g W M H D (if p then o else .bad)) : p ∧ kS g W M H D o := by
  by_cases hp : p
  · rw [if_pos hp] at h; exact ⟨hp, h⟩
  · rw [if_neg hp] at h; exact (show False from h).elim
theorem Reps.upto {g : G} {M : Mt} {vs : List V} {ds : List D} (r : Reps g M vs ds) {i : Nat} {d : D} (h : ds[i]? = some d) : ∃ v, vs[i]? = some v ∧ Rep g M v d := r.getV h
section
variable {X : Cx} {g : G} {W : WX} {x : Str} {e : Expr} {es : List Expr} {p pos pos' : Pos} {fI : Addr} {k c : Nat} {fd : FuncData} {ps N ns : List Str} {tl : List Value} {B newId initId : String} {cd : Str} {is : List Nat} {fr : Av}
theorem w_raise {C : Addr} {ta : TA} (hN : N.length ≤ 100) {D : Ends} {σ : L2.St} {H : Hp} (hC : g.C c = C) (h : tS g W (sRaise c cd ns is fr) D σ H) (hns : ns.length ≤ 10) :
    tMkO C (spXI g C N (is.map (· + 1)) cd (pvOf ns 1) (ns.length + 1)) [] (tA g W fr) σ H fun cls d H' => W cls d σ H' := by
  subst hC
  obtain ⟨env, S, M, s, er, q⟩ := h
  refine ⟨env, S, M, s, er, seqS er q fun vs ds S1 M1 H1 n1 r1 er1 q1 => ?_⟩
  obtain ⟨⟨hl, hm⟩, q1⟩ := ifS q1
  have hlv : vs.length = ns.length := r1.len.trans hl
  refine ⟨by omega, fun a na => ?_⟩
  rw [List.append_nil]
  obtain ⟨f1, f2⟩ := mem_not n1.sim na
  have hs0 : ∀ j w, vs[j]? = some w → (startF N (V.ref a :: vs) [none])[1 + j]? = some (some w) := fun j w hj => by
    unfold startF
    have hlt : j < vs.length := (List.getElem?_eq_some_iff.mp hj).1
    rw [List.getElem?_append_left (by simp; omega), List.getElem?_map, Nat.add_comm 1 j, List.getElem?_cons_succ, hj]; rfl
  obtain ⟨e1, e2⟩ := pvOf_puts ns vs 1 (startF N (V.ref a :: vs) [none]) [(("code" : Str), V.str cd)] hlv.symm hs0
  refine ⟨a, S1, M1, by rw [List.length_cons, hlv], rfl, upd_same, n1.sim.off f1 f2 (kd_none na), fun i hi => ?_, e2, fun dx hd ne => ?_⟩
  · obtain ⟨j, hj, rfl⟩ := List.mem_map.mp hi
    have hm1 := List.all_eq_true.mp hm j hj
    cases ed : ds[j]? with
    | none => rw [ed] at hm1; cases hm1
    | some d =>
      rw [ed] at hm1
      obtain ⟨v, hv, rv⟩ := r1.getV ed
      exact ⟨v, d, by rw [Nat.add_comm]; exact hs0 j v hv, rv, hm1⟩
  · rw [upd_ne ne] at hd
    rw [e1]
    refine ⟨rfl, dx, (ns.zip vs).reverse ++ [(("code" : Str), V.str cd)], by rw [upd_ne (Ne.symm ne), upd_same], upd_same, hd, ?_⟩
    have eH : upd (L2.del (upd (upd (upd H1 a (exo a (g.C c) none)) a (exo a (g.C c) (some dx))) dx (exd dx ((ns.zip vs).reverse ++ [(("code" : Str), V.str cd)]))) a) dx (.xd ((ns.zip vs).reverse ++ [(("code" : Str), V.str cd)])) = upd H1 dx (.xd ((ns.zip vs).reverse ++ [(("code" : Str), V.str cd)])) := by
      funext b
      by_cases hb : b = dx
      · rw [hb, upd_same, upd_same]
      · rw [upd_ne hb, upd_ne hb]
        by_cases hb2 : b = a
        · rw [hb2, del_same, na]
        · rw [del_ne hb2, upd_ne hb, upd_ne hb2, upd_ne hb2]
    rw [eH]
    exact q1 _ _ σ _ _ (Nxt.laid n1.sim hd) (.mk upd_same ((((RepF.zip r1).rev).app (.cons (.str cd) .nil)).le (Nxt.laid n1.sim hd).le)) (er1.le (Nxt.laid n1.sim hd).le)
theorem s_raise {C : Addr} (hC : g.C c = C) (hN : N.length ≤ 100) (hns : ns.length ≤ 10) (hc : X.calm = true) (tk : Takes X W) (xt : ExT tl B newId initId) (T : OexT X.K tl newId C) (iC : PySem.W.findIn X.K (.ref C) "__init__" = some (some (.ref fI))) (tI : PySem.W.typeIn X.K (.ref fI) = some (.type "function"))
    (F1 : FnOk X.prog X.w X.K X.mg X.base (L2.CX X.prog X.w) k fI fd ps (spXI g C N (is.map (· + 1)) cd (pvOf ns 1) (ns.length + 1))) (hr : Room (k + 1) X.A) (hb : Binds X.K fd ps []) (hg : Gl X x) (hm : X.mg x = some (.ref C)) (ha : PA X (e :: es) (tA g W fr))
    (hdb : (x == ("__debug__" : Str)) = false := by decide) (he : starEach (e :: es) X.env = (false, eval e X.env) :: starEach es X.env := by rfl) (hpl : (backTo pos (starEach es X.env)).any (·.1) = false := by rfl) :
    PS X (.Raise (some (.Call (.Name x p) (e :: es) [] pos)) none pos') (tS g W (sRaise c cd ns is fr)) :=
  (ps_raise hc tk (pmk_xt xt T iC tI F1 hr hb (passes_call tk fun _ _ _ _ z => z.elim) hg hm ha hdb he hpl)).weak fun _ _ _ h => w_raise (ta := tA g W fr) hN hC h hns
end
end DL

/-! DM4: lambdas without parameters: made, and what they are called. -/
namespace DL
open PySem PySem.Spec PyProof.Rows L2 LamX
section
variable {X : Cx} {pins : List (Addr × Obj)} {σ : L2.St} {H : Hp} {s : Shared} {g : G} {M : Mt} {S : Sto}
theorem codeO_nt {c : Addr} {q : Str} : ∀ ps : Array Value, CodeO c q ≠ .tbl ps := fun ps z => codeO_ne ps z
/-- a lambda is made -/
theorem lam_mk {c P : Addr} {q : Str} {params : Arguments} {body : Expr} {scope : Scope} {pos : Pos} {E : Value → Shared → Prop} {Q : Value → Shared → Prop} (I : Inv X pins σ H s) (sm : Sim g M H S) (TB : TabB X.base X.mg c P) (hcode : X.env.code = .ref c) (hq : X.env.qual ++ "<lambda>" = q)
    (hm : (P, q) ∈ g.T) (hu : ∀ p ∈ g.T, p.1 = P → p.2 = q) (hdef : defaultsOf params X.env = ([], [])) (hfree : ∀ y ∈ scope.names, y.2 = .free → ∃ c, X.env.cells.lookup y.1 = some c)
    (h : ∀ (f c' : Addr) (pm ctv : Value) (H1 : Hp) (s' : Shared) (M1 : Mt), Inv X pins σ H1 s' → Nxt g M H S M1 H1 → M1.I c' = some (CodeO c' q) →
      s'.heap.get? f = some (PySem.W.kla_obj "<lambda>" q params body scope (cloFrom X.env.cells scope.names []) pm c' ctv) → H1 f = none → f ∉ frs X.stack → Q (.ref f) s') :
    wpAny (model X.prog X.w) X.A (eval (.Lambda params body scope pos) X.env) Q E s := by
  subst hq
  obtain ⟨ps, tP, tr, ta⟩ := sm.tb _ hm
  dsimp only at tP ta
  refine PySem.W.kla_eval hdef ?_
  have oP : s.heap.get? P = some { cls := .none, data := .fields ps } := I.hok P _ tP
  have out : ∀ f, s.heap.objs.size ≤ f → f ∉ frs X.stack := fun f hf z => by
    rcases List.mem_cons.mp (I.stkSub _ z) with e | e
    · rw [e] at hf
      exact Nat.lt_irrefl _ (Nat.lt_of_lt_of_le I.lt hf)
    · exact I.nofs hf e
  cases hc : codeAmong pos ps.toList with
  | some cv =>
    obtain ⟨c', rfl, hI⟩ := ta pos cv hc
    refine PySem.W.kla_makeFunctionHit (mg := X.mg) (c := c) (P := P) (ps := ps) (closure_ok hfree) I.ok.glob (I.mod.glob.keeps I.bk) hcode (TB.code.keeps I.bk) oP tr hc (TB.bm.keeps I.bk) fun ctv h' tk hx hsz => ?_
    exact h _ c' _ ctv H _ M (I.kept fun b o e => Heap.get?_push_of_some _ (hx b o e)) (.refl sm) hI (Heap.get?_push_size _ rfl) (I.hok.fresh hsz) (out _ hsz)
  | none =>
    refine PySem.W.kla_makeFunction (mg := X.mg) (c := c) (P := P) (ps := ps) (closure_ok hfree) I.ok.glob (I.mod.glob.keeps I.bk) hcode (TB.code.keeps I.bk) oP tr hc TB.gP (TB.bm.keeps I.bk) fun c' ctv h' tk hx hge hlt hrec htb => ?_
    obtain ⟨c2, oc, vs, t, e2, hoc, hd, hv⟩ := hrec
    cases e2
    have hsz : s.heap.objs.size ≤ h'.objs.size := Nat.le_trans hge (Nat.le_of_lt hlt)
    have nC : H c' = none := I.hok.fresh hge
    have nPc : P ≠ c' := ne_of_none tP nC
    have I1 := inv_table (t' := tk) (more := #[rawInt pos.line, rawInt pos.col, .ref c']) (q := X.env.qual ++ "<lambda>") (h' := h'.push (PySem.W.kla_obj "<lambda>" (X.env.qual ++ "<lambda>") params body scope (cloFrom X.env.cells scope.names []) ((X.mg "__name__").getD .none) c' ctv)) I tP
      (fun b o hb e => Heap.get?_push_of_some _ (hx b o hb e)) (Heap.get?_push_of_some _ htb) hge ⟨oc, vs, t, Heap.get?_push_of_some _ hoc, hd, hv⟩
    have mP : P ∉ M.m := sm.tm _ hm
    have IP : M.I P = none := by
      cases e : M.I P with
      | none => rfl
      | some u =>
        have := sm.im _ _ e
        rw [tP] at this
        cases this
        exact absurd e (sm.nt P ps)
    have Ic : M.I c' = none := by
      cases e : M.I c' with
      | none => rfl
      | some u => rw [sm.im _ _ e] at nC; cases nC
    have mc : ∀ a ∈ M.m, a ≠ c' := fun a ha z => by
      obtain ⟨u, e⟩ := sm.ex a ha
      rw [z, nC] at e; cases e
    have le : M.Le ⟨upd M.I c' (CodeO c' (X.env.qual ++ "<lambda>")), M.m⟩ := ⟨fun a u e => by
      show upd M.I c' _ a = _
      rw [upd_ne fun z => by rw [z, Ic] at e; cases e]; exact e, [], by simp⟩
    have at_ : ∀ {a : Addr} {u : HO}, H a = some u → a ≠ P → upd (upd H P (.tbl (ps ++ #[rawInt pos.line, rawInt pos.col, .ref c']))) c' (CodeO c' (X.env.qual ++ "<lambda>")) a = some u := fun {a u} e n => by
      rw [upd_ne (ne_of_none e nC), upd_ne n]; exact e
    have atP : upd (upd H P (.tbl (ps ++ #[rawInt pos.line, rawInt pos.col, .ref c']))) c' (CodeO c' (X.env.qual ++ "<lambda>")) P = some (.tbl (ps ++ #[rawInt pos.line, rawInt pos.col, .ref c'])) := by
      rw [upd_ne nPc, upd_same]
    refine h h'.objs.size c' _ ctv _ _ ⟨upd M.I c' (CodeO c' (X.env.qual ++ "<lambda>")), M.m⟩ I1 ⟨le, fun a u e n => ?_, fun a ha => .inl ha, fun a u e => ?_, ⟨sm.len, sm.nd, fun a u e => ?_, fun a ha => ?_, fun l a mo e1 e2 e3 => ?_, fun p hp => ?_, fun a qs z => ?_, sm.tm⟩⟩ upd_same (Heap.get?_push_size _ rfl) ?_ (out _ hsz)
    · by_cases z : a = P
      · subst z
        rw [tP] at e
        cases e
        exact ⟨_, atP, .inr ⟨_, _, rfl, rfl⟩⟩
      · exact ⟨u, at_ e z, .refl _⟩
    · have e : upd M.I c' (CodeO c' (X.env.qual ++ "<lambda>")) a = some u := e
      by_cases z : a = c'
      · exact .inr (.inr (by rw [z]; exact nC))
      · rw [upd_ne z] at e; exact .inl e
    · have e : upd M.I c' (CodeO c' (X.env.qual ++ "<lambda>")) a = some u := e
      by_cases z : a = c'
      · subst z; rw [upd_same] at e ⊢; exact e
      · rw [upd_ne z] at e
        exact at_ (sm.im _ _ e) fun z2 => by rw [z2, IP] at e; cases e
    · obtain ⟨u, e⟩ := sm.ex a ha
      exact ⟨u, at_ e fun z => mP (z ▸ ha)⟩
    · obtain ⟨q1, q2⟩ := sm.lv l a mo e1 e2 e3
      have ha := List.mem_of_getElem? e1
      refine ⟨?_, q2.le le fun u e => at_ e fun z => mP (z ▸ ha)⟩
      show upd M.I c' _ a = none
      rw [upd_ne (mc a ha)]; exact q1
    · by_cases z : p.1 = P
      · have e2 := hu p hp z
        rw [z, e2]
        refine ⟨_, atP, ?_, fun p' cv hcv => ?_⟩
        · have eL : (ps ++ #[rawInt pos.line, rawInt pos.col, .ref c']).toList = ps.toList ++ [rawInt pos.line, rawInt pos.col, .ref c'] := by simp
          rw [eL]; exact PySem.TriplesOk_snoc _ _ _ _ tr
        · have eL : (ps ++ #[rawInt pos.line, rawInt pos.col, .ref c']).toList = ps.toList ++ [rawInt pos.line, rawInt pos.col, .ref c'] := by simp
          rw [eL] at hcv
          rcases among_app _ tr hcv with y | y
          · obtain ⟨c0, y1, y2⟩ := ta p' cv y
            exact ⟨c0, y1, le.I _ _ y2⟩
          · exact ⟨c', y, upd_same⟩
      · obtain ⟨qs, y1, y2, y3⟩ := sm.tb p hp
        refine ⟨qs, at_ y1 z, y2, fun p' cv hcv => ?_⟩
        obtain ⟨c0, y4, y5⟩ := y3 p' cv hcv
        exact ⟨c0, y4, le.I _ _ y5⟩
    · have z : upd M.I c' (CodeO c' (X.env.qual ++ "<lambda>")) a = some (.tbl qs) := z
      by_cases y : a = c'
      · subst y; rw [upd_same] at z; exact codeO_nt qs (Option.some.inj z)
      · rw [upd_ne y] at z; exact sm.nt a qs z
    · have n1 : h'.objs.size ≠ c' := Nat.ne_of_gt hlt
      have n2 : h'.objs.size ≠ P := Nat.ne_of_gt (Nat.lt_of_lt_of_le (Heap.lt_size oP) hsz)
      rw [upd_ne n1, upd_ne n2]
      exact I.hok.fresh hsz
end
end DL

/-! DM5: try: body / except (A, B) as e: suite; the caught exception is tracked. -/
namespace DL
open PySem PySem.Spec PyProof.Rows L2 HandSPX
theorem exv_own {a C x : Addr} {d : Option Addr} : exv a C d ≠ .own x := fun z => by
  unfold exv at z
  cases z
theorem exv_nt {a C : Addr} {d : Option Addr} : ∀ ps, exv a C d ≠ .tbl ps := fun _ z => by
  unfold exv at z
  cases z
theorem fly_keeps {B h h' : Heap} {l : List PySem.Env} {e : Addr} {Z : Obj → Prop} (x : FlyingZ B l e Z h) (k : ∀ b o, h.get? b = some o → h'.get? b = some o) : FlyingZ B l e Z h' := by
  obtain ⟨x1, x2, x3, oe, vs, T, oT, ts, y1, y2, y3, y4, y5, y6, y7, y8, y9⟩ := x
  exact ⟨fun b o q => k _ _ (x1 b o q), x2, Heap.FunFrames.of_keeps (fun b o q _ => ⟨o, k b o q, rfl⟩) x3, oe, vs, T, oT, ts, k _ _ y1, y2, y3, y4, y5, y6, k _ _ y7, y8, y9⟩
section
variable {X : Cx} {pins : List (Addr × Obj)} {σ : L2.St} {H : Hp} {s : Shared}
/-- an object that was not there at the entry is tracked from now on; the handled one -/
theorem inv_hot {a C : Addr} {d : Option Addr} {oe : Obj} {vs : Array Value} (I : Inv X pins σ H s) (ha : s.heap.get? a = some oe) (hz : Zc (.ref C) d oe) (hd : oe.data = .fields vs) (na : H a = none) (n0 : X.s_0.heap.get? a = none) (hp : ∀ p ∈ X.pn ++ pins, p.1 ≠ a) (nL : a ≠ X.env.locals) (nF : a ∉ X.fs) :
    Inv (X.suite a (X.pn ++ pins)) [] σ (upd H a (exv a C d)) s := by
  have ob : ObjOk X.prog X.w (upd H a (exv a C d)) s.heap a (exv a C d) := ⟨⟨oe, vs, ha, hz.1, hz.2, hd⟩, ⟨_, ha⟩, fun h1 h2 ⟨o, vs, z1, z2⟩ k => ⟨o, vs, k _ z1, z2⟩⟩
  refine ⟨I.ok.suite _ _, I.os, I.bare, ⟨I.base.keep, I.base.slot, fun b o e n hx => ?_, I.base.there, fun b xs e => ?_, fun b o u e => ?_, fun b ps e => ?_⟩, I.loc, I.cell, ?_, fun x c e => ?_, fun p hq => ?_, fun b u e => ?_, I.len⟩
  · rw [upd_ne fun z => by rw [z] at e; exact absurd (show X.s_0.heap.get? a = some o from e) (by rw [n0]; exact nofun)]
    exact I.base.free b o e n hx
  · have e' := I.base.tups b xs e
    rw [upd_ne (ne_of_none e' na)]; exact e'
  · have e' := I.base.frzs b o u e
    rw [upd_ne (ne_of_none e' na)]; exact e'
  · obtain ⟨more, e'⟩ := I.base.tbls b ps e
    exact ⟨more, by rw [upd_ne (ne_of_none e' na)]; exact e'⟩
  · show upd H a _ X.env.locals = none
    rw [upd_ne (Ne.symm nL)]; exact I.free
  · have n : c ≠ a := fun z => by
      obtain ⟨v, o, e1, e2⟩ := I.cell x c e
      rw [z, ha] at e1
      cases e1
      rw [hd] at e2
      cases e2
    rw [upd_ne n]; exact I.freeC x c e
  · have hq' : p ∈ X.pn ++ pins := by rw [List.append_nil] at hq; exact hq
    obtain ⟨q1, q2, q3⟩ := I.pin p hq'
    exact ⟨q1, by rw [upd_ne (hp p hq')]; exact q2, q3⟩
  · by_cases hb : b = a
    · rw [hb] at e ⊢
      rw [upd_same] at e
      cases e
      exact ob
    · rw [upd_ne hb] at e
      refine (I.hok b u e).stay (fun c v _ z => z) (fun c z => ?_) fun c xs z => ?_
      · rw [upd_ne (ne_of_none z na)]; exact z
      · rw [upd_ne (ne_of_none z na)]; exact z
theorem inv_cold {a : Addr} {pn' : List (Addr × Obj)} (I : Inv (X.suite a (X.pn ++ pins)) pn' σ H s) (ok : X.Ok) : Inv X pins σ H s :=
  ⟨ok, I.os, I.bare, I.base, I.loc, I.cell, I.free, I.freeC, fun p hp => I.pin p (List.mem_append_left _ hp), I.hok, I.len⟩
end
/-- what the clause wishes of an exception of the body: it is of one of the two classes -/
def wHot (K : PySem.W.Frag) (c1 c2 : Value) (i : Nat) (ts : TS) (D : Ends) : WX := fun cls d σ H =>
  ∃ (C dx : Addr), cls = .ref C ∧ d = some dx ∧ PySem.W.exmAny K cls [c1, c2] = some true ∧ ∀ a, H a = none →
    ts { nx := fun σ' H' => D.nx (σ'.set i none) H', rt := D.rt, bk := fun σ' H' => D.bk (σ'.set i none) H', ct := fun σ' H' => D.ct (σ'.set i none) H' } (σ.set i (some (.ref a))) (upd H a (exv a C (some dx)))
section
variable {X : Cx} {x1 x2 n : Str} {c1 c2 : Value} {i : Nat} {body suite : List Stmt} {b₀ : Stmt} {p1 p2 tpos pos pos' : Pos} {kk : Nat} {tb : WX → TS} {ts : TS}
theorem ps_try_hot (hex : X.ex = []) (hs : X.stack = X.env :: X.outer) (hf : X.env.frame = some X.env.locals) (hN : X.N.Nodup) (hi : X.N[i]? = some n) (hln : X.env.kindOf n = some .local) (hc1 : Names X x1 c1) (hc2 : Names X x2 c2)
    (hb : ∀ (W : WX) (pn : List (Addr × Obj)) (xe : Value → Shared → Prop), Takes (X.tr pn xe) W → PassesOwn (model X.prog X.w) X.A X.env xe → PSs (X.tr pn xe) body (tb W))
    (hsu : ∀ (a : Addr) (pn : List (Addr × Obj)), PSs (X.suite a pn) (b₀ :: suite) ts) :
    PS X (.Try body [.ExceptHandler (some (.Tuple [.Name x1 p1, .Name x2 p2] kk tpos)) (some n) (b₀ :: suite) pos'] [] [] pos) (fun D σ H => tb (wHot X.K c1 c2 i ts D) D σ H) := by
  refine ⟨fun pins s σ H D I h => ?_⟩
  have ok := I.ok
  have fr1 : X.A.frames = some (X.env :: X.outer) := by rw [ok.frames, hs]
  refine wpAny_Try_except ?_
  refine wpAny_mono ((hb (wHot X.K c1 c2 i ts D) (X.pn ++ pins) (fun e t1 => wpAny (model X.prog X.w) X.A (noteFrame e X.env) (fun _ t2 => wpAny (model X.prog X.w) X.A (setFlight e none) (fun _ t3 =>
    wpAny (model X.prog X.w) X.A (handleBy e X.env [.ExceptHandler (some (.Tuple [.Name x1 p1, .Name x2 p2] kk tpos)) (some n) (b₀ :: suite) pos']) (SP X pins D) X.xe t3) X.xe t2) X.xe t1) (fun u s' xx => ?_) PassesOwn.looking).run [] s σ H D (I.toTry _) h) (fun f t1 hsp => ?_) (fun e t1 he => he)
  · obtain ⟨a, B, sI, pins', σ', H', cls, d, rfl, J', nb, up, sky, na, os, ag, C, dx, rfl, rfl, hx, hw⟩ := xx
    have J : Inv X pins σ' H' sI := J'.ofTry ok
    have sky2 : Sky B (X.env :: X.outer) a (Zc (.ref C) (some dx)) X.env.locals s'.heap := by rw [← hs]; exact sky
    show wpAny (model X.prog X.w) X.A (noteFrame (.ref a) X.env) _ _ _
    refine Sky.land Zc.steady fr1 hf sky2 fun h3 fl3 up3 => ?_
    have J3 : Inv X pins σ' H' { s' with heap := h3 } := J.landed nb fl3.1 (up.trans up3) os ag
    obtain ⟨oe3, vs3, he3, hz3, hd3⟩ := fl3.there
    have bn : B.get? a = none := fl3.2.1
    have inG : ∀ b o, sI.heap.get? b = some o → b ∉ frs X.stack → b ≠ a := fun b o e hnf z => by
      have q := nb b o e hnf
      rw [z, bn] at q
      cases q
    have nfr : a ∉ frs (X.env :: X.outer) := fun hm => by
      obtain ⟨_, o', e', hnf⟩ := Heap.FunFrames.mem fl3.2.2.1 hm
      rw [he3] at e'; cases e'
      exact hnf _ hd3
    have nL : a ≠ X.env.locals := fun z => nfr (List.mem_filterMap.mpr ⟨X.env, List.mem_cons_self, by rw [hf, z]⟩)
    have nF : a ∉ X.fs := fun hm => by
      obtain ⟨e, he, q⟩ := List.mem_filterMap.mp hm
      exact nfr (List.mem_filterMap.mpr ⟨e, List.mem_cons_of_mem _ he, q⟩)
    have nS : a ∉ frs X.stack := by rw [hs]; exact nfr
    have n0 : X.s_0.heap.get? a = none := by
      cases e : X.s_0.heap.get? a with
      | none => rfl
      | some o =>
        exfalso
        obtain ⟨o', e'⟩ := J.base.there a o e (by rw [hex]; exact List.not_mem_nil)
        exact inG a o' e' nS rfl
    have hpn : ∀ p ∈ X.pn ++ pins, p.1 ≠ a := fun p hp => by
      obtain ⟨q1, _, q3, q4, _⟩ := J.pin p hp
      refine inG p.1 p.2 q1 fun hm => ?_
      rcases List.mem_cons.mp (J.stkSub p.1 hm) with z | z
      · exact q3 z
      · exact q4 z
    refine wpAny_handleBy_cons (codeAny_handlers_test ?_) (by intro q; cases q)
    have S0 : Inv (X.suite a (X.pn ++ pins)) [] σ' H' { s' with heap := h3 } :=
      ⟨ok.suite _ _, J3.os, J3.bare, J3.base, J3.loc, J3.cell, J3.free, J3.freeC, fun p hp => J3.pin p (by rw [List.append_nil] at hp; exact hp), J3.hok, J3.len⟩
    have nm : ∀ {x : Str} {c : Value} {np : Pos} {Q : Value → Shared → Prop} {E : Value → Shared → Prop}, Names X x c → Q c { s' with heap := h3 } → wpAny (model X.prog X.w) (X.A.mark (some (.ref a))) (eval (.Name x np) X.env) Q E { s' with heap := h3 } := fun {x c np Q E} hc q => by
      obtain ⟨hg, hdbg, hm | ⟨hm, hv, hnn⟩⟩ := hc
      · exact ld_glob (X := X.suite a (X.pn ++ pins)) S0 hg hm q hdbg
      · exact ld_blt (X := X.suite a (X.pn ++ pins)) S0 hg hm hv q hnn hdbg
    refine wpAny_Tuple (wpAny_items_cons (nm hc1 (wpAny_items_cons (nm hc2 (wpAny_items_nil ⟨by size_fits, ?_⟩)))))
    have kp : ∀ b o, h3.get? b = some o → (h3.push { cls := .type "tuple", data := .seq [c1, c2].toArray }).get? b = some o := fun b o z => Heap.get?_push_of_some _ z
    have LT : PySem.W.Looks (model X.prog X.w) (h3.push { cls := .type "tuple", data := .seq [c1, c2].toArray }) (typeOf (.ref a)) (.ref C) := fun A Q E s k q => wpAny_typeOf_ref (k _ _ (kp _ _ he3)) (by rw [hz3.1]; exact q)
    refine (PySem.W.exm_tup2 (M := model X.prog X.w) (J3.kIn.keeps kp) LT (Heap.get?_push_size h3 rfl) hx).here ?_
    have fl4 := fly_keeps fl3 kp
    refine codeAny_handlers_suite_as ?_
    refine HandSPX.lands_againZ (s := { s' with heap := h3.push { cls := .type "tuple", data := .seq [c1, c2].toArray } }) fl4 fun h5 fl5 up5 => ?_
    have up4 : h3.UpToSlots (h3.push { cls := .type "tuple", data := .seq [c1, c2].toArray }) := Heap.UpToSlots.of_keeps kp
    have J5 : Inv X pins σ' H' { s' with heap := h5 } := J.landed nb fl5.1 (((up.trans up3).trans up4).trans up5) os ag
    obtain ⟨oe5, vs5, he5, hz5, hd5⟩ := fl5.there
    have S5 := inv_hot J5 he5 hz5 hd5 na n0 hpn nL nF
    refine store_ok (X := X.suite a (X.pn ++ pins)) (v := .ref a) S5 hN hi (.inl hln) rfl (fun s6 S6 => ?_) (.inr hln)
    refine wpAny_mono ((hsu a (X.pn ++ pins)).run [] s6 _ _ _ S6 (hw a na)) (fun f s7 hsp => ?_) (fun _ _ z => False.elim z)
    have last : ∀ {σ7 : L2.St} {H7 : Hp} {Q : Shared → Prop}, Inv (X.suite a (X.pn ++ pins)) [] σ7 H7 s7 → (∀ s8, Inv X pins (σ7.set i none) H7 s8 → Q s8) →
        wpAny (model X.prog X.w) X.A (do bindName X.env n .none; unbindBehindTheSuite X.env n pos') (fun _ s8 => Q s8) X.xe s7 := fun {σ7 H7 Q} S7 hq => gone_ok (inv_cold S7 ok) hN hi hln hq
    cases f with
    | next =>
      obtain ⟨σ7, H7, S7, q7⟩ := hsp
      exact last S7 fun s8 J8 => ⟨_, _, J8, q7⟩
    | brk =>
      obtain ⟨σ7, H7, S7, q7⟩ := hsp
      exact last S7 fun s8 J8 => ⟨_, _, J8, q7⟩
    | cont =>
      obtain ⟨σ7, H7, S7, q7⟩ := hsp
      exact last S7 fun s8 J8 => ⟨_, _, J8, q7⟩
    | ret u =>
      obtain ⟨v7, σ7, H7, S7, r7, q7⟩ := hsp
      exact last S7 fun s8 J8 => ⟨_, _, _, J8, r7, q7⟩
  · cases f with
    | next =>
      obtain ⟨σ', H', J', q⟩ := hsp
      exact wpAny_execs_nil ⟨σ', H', J'.ofTry ok, q⟩
    | brk =>
      obtain ⟨σ', H', J', q⟩ := hsp
      exact ⟨σ', H', J'.ofTry ok, q⟩
    | cont =>
      obtain ⟨σ', H', J', q⟩ := hsp
      exact ⟨σ', H', J'.ofTry ok, q⟩
    | ret u =>
      obtain ⟨v, σ', H', J', r, q⟩ := hsp
      exact ⟨v, σ', H', J'.ofTry ok, r, q⟩
end
end DL

/-! DM6: attributes of a caught exception; defs called in an except suite. -/
namespace DL
open PySem PySem.Spec PyProof.Rows L2 HandSPX
section
variable {g : G} {M : Mt}
theorem RepF.look {f : Str} {d : D} : ∀ {fs : List (Str × V)} {ds : List (Str × D)}, RepF g M fs ds → ds.lookup f = some d → ∃ v, fs.lookup f = some v ∧ Rep g M v d
  | _, _, .nil, h => by cases h
  | _, _, .cons (k := k) a b, h => by
    by_cases e : f = k
    · subst e
      simp [List.lookup] at h
      subst h
      exact ⟨_, by simp [List.lookup], a⟩
    · have e' : (f == k) = false := by simpa using e
      simp only [List.lookup, e'] at h ⊢
      exact b.look h
end
section
variable {X : Cx} {g : G} {W : WX} {e : Expr} {fa : Ev} {pos : Pos} {n : Str}
/-- what the written part says of exception classes whose attribute n is read -/
def XfAll (K : PySem.W.Frag) (g : G) (cs : List Nat) (n : Str) : Prop := ∀ c ∈ cs, XfC K (g.C c) ∧ PySem.W.findIn K (.ref (g.C c)) n = some none
def eXattr (cs : List Nat) (n : Str) (fa : Ev) : Ev := fun e S => (fa e S).bind fun d S => match d with
  | .exc c fs => if cs.contains c = true then Ret.of (fs.lookup n) S else .bad
  | _ => .bad
theorem d_xattr {cs : List Nat} (hX : XfAll X.K g cs n) (he : PE X e (tE g W fa)) (hb : attributeBase e n X.env (eval e X.env) = eval e X.env := by rfl) : PE X (.Attribute e n pos) (tE g W (eXattr cs n fa)) := by
  refine ⟨fun pins s σ H Q I ⟨env, S, M, sm, er, q⟩ => ?_⟩
  have h : tE g W fa σ H fun x H1 => ∃ (a dx : Addr) (c : Nat) (fs : List (Str × V)) (v : V), x = .ref a ∧ cs.contains c = true ∧ H1 a = some (exv a (g.C c) (some dx)) ∧ H1 dx = some (.xd fs) ∧ fs.lookup n = some v ∧ Q v H1 := by
    refine ⟨env, S, M, sm, er, seqG q fun x d S1 M1 H1 n1 r1 q1 => ?_⟩
    cases d with
    | exc c ds =>
      obtain ⟨hc, q1⟩ := ifok q1
      obtain ⟨d, hd, q1⟩ := Ret.of_on q1
      cases r1 with
      | exc h1 h2 h3 =>
        obtain ⟨v, hv, rv⟩ := h3.look hd
        exact ⟨_, _, c, _, v, rfl, hc, n1.sim.im _ _ h1, n1.sim.im _ _ h2, hv, kG_here n1.sim rv q1⟩
    | _ => exact (show False from q1).elim
  refine attr_of hb (thn (he.run pins s σ H _ I h) fun u s1 hh => ?_)
  obtain ⟨x, H1, I1, rx, a, dx, c, fs, v, rfl, hc, ea, ed, hl, q1⟩ := hh
  obtain rfl : u = Value.ref a := rx
  have hO : ObjOk X.prog X.w H1 s1.heap a (exv a (g.C c) (some dx)) := I1.hok a _ ea
  obtain ⟨⟨oe, vs, o1, o2, o3, o4⟩, _, _⟩ := hO
  have hx : ObjOk X.prog X.w H1 s1.heap dx (.xd fs) := I1.hok dx _ ed
  obtain ⟨mA, hns, hr⟩ := hx
  obtain ⟨od, ho, hlk⟩ := lookIn_ns hns
  obtain ⟨u, hu, ru⟩ := RelO.some_of (v := v) (o := mA n) (by rw [← hl]; exact hr n)
  obtain ⟨T, hno⟩ := hX c (by simpa using hc)
  have J : PySem.W.InstAt s1.heap a oe (g.C c) (some od) := ⟨o1, o2, by unfold PySem.W.notCls; rw [o4] <;> rfl, by rw [o3]; exact ho⟩
  exact HandSPX.exc_get I1.kIn J T.ga T.gg T.exC (PySem.W.findObj_own T.hdC hno rfl (by rw [hlk, hu])) (handed_of ru) ⟨v, H1, I1.tok _, ru, q1⟩
end

/-! ### defs that are called where an exception is handled -/
structure FnW (P : Program) (w : World) (K : PySem.W.Frag) (mg : Str → Option Value) (base : Heap) (k : Nat) (f : Addr) (fd : FuncData) (ps : List Str) (sp : Sp) : Prop where
  len : ∀ vs H Q E, sp vs H Q E → vs.length = ps.length
  run : ∀ (A : Around) (outer : List PySem.Env) (s : Shared) (H : Hp) (args : Args) (us : List Value) (vs : List V) (Q : VK) (E : XK), L2H.RoomH k A → Env0 P w K mg base A outer s H → BindsTo s fd args (ps.zip us) → Vals vs us → sp vs H Q E →
    codeAny (model P w) A (.call (.ref f) args) (CR (L2.CX P w) outer P w H s Q E) s
/-- the context of such a def's body -/
def cxW (P : Program) (w : World) (K : PySem.W.Frag) (mg : Str → Option Value) (base : Heap) (N : List Str) (qual : Str) (scope : Scope) (f : Addr) (cd : Value) (A : Around) (outer : List PySem.Env) (s : Shared) (H : Hp) (E : XK) : Cx :=
  { cxOf (L2.CX P w) P w K mg base N qual scope f cd A outer s H E with calm := false }
section
variable {P : Program} {w : World} {K : PySem.W.Frag} {mg : Str → Option Value} {base : Heap} {g : G}
theorem FunW_ok {x qual : Str} {params : Arguments} {body : List Stmt} {scope : Scope} {dvs : List V} {kws : List (Str × V)} {f : Addr} {fd : FuncData} {N ps : List Str} {k : Nat} {fb : Sv} (F : FunD K x qual params body scope dvs kws f fd) (S : FnScope N ps scope)
    (hbody : ∀ (cdv : Value) (A : Around) (outer : List PySem.Env) (s : Shared) (H : Hp) (E : XK), L2H.RoomH k (A.deeper (envOfC qual scope s.heap.objs.size f cdv)) →
      PSs (cxW P w K mg base N qual scope f cdv A outer s H E) body (tS g (fun cls d _ H => E cls d H) fb)) :
    FnW P w K mg base (k + 1) f fd ps (spF g ps.length (runB N.length fb)) := by
  obtain ⟨oc, od, dV, kV, doc, pm, an, cdv, ct, osl, rfl, lk, hcd, _, _⟩ := F.ex
  refine ⟨fun vs H Q E ⟨ds, S, M, hl, _, r, _⟩ => by rw [r.len, hl], fun A outer s H args us vs Q E hr e0 hb r hsp => ?_⟩
  obtain ⟨ds, S0, M, hlen, sm, rr, q⟩ := hsp
  have hl : vs.length = ps.length := by rw [rr.len, hlen]
  have KX : K.In s.heap := e0.mod.kin.keeps fun b o e => (e0.bs b o e).1
  have lim : s.heap.NoLimit := e0.mod.nolimit.keeps fun b o e => (e0.bs b o e).1
  have kinds : ∀ y ∈ ps.zip us, scope.names.lookup y.1 = some .local ∨ (scope.names.lookup y.1 = some .cell ∧ ((cellsFrom (s.heap.objs.size + 1) scope.names []).lookup y.1).isSome = true) := fun ⟨n, v⟩ hy =>
    (S.par n (List.of_mem_zip hy).1).imp id fun z => ⟨z, PySem.W.cellsFrom_some _ _ _ (.inl z)⟩
  refine codeAny_call_function hr.depth (KX _ _ lk) rfl S.co S.gen rfl (PySem.W.codeRec_of KX hcd) (hb _ _ _ _ ?_)
  refine wpAny_newFunctionEnv_cells S.kind kinds fun env he s1 x => ?_
  subst he
  refine ⟨lim.keeps x.toInCall.keep, codeAny_func ?_⟩
  have I0 := inv_start (CX := L2.CX P w) (A := { A with handled := none }) (E := E) S rfl ⟨e0.frames, e0.mod, e0.bs, e0.bsz, e0.funs, e0.frf, e0.hok, e0.bare⟩ hl r x
  have I : Inv (cxW P w K mg base N qual scope f cdv A outer s H E) [] (L2.start N vs) H s1 :=
    ⟨⟨I0.ok.mod, I0.ok.kind, I0.ok.glob, I0.ok.blt, I0.ok.above, I0.ok.inj, I0.ok.has, I0.ok.cab, fun z => Bool.noConfusion (show false = true from z), Around.frames_deeper e0.frames, I0.ok.stk, I0.ok.exf, I0.ok.bs, I0.ok.bsz, I0.ok.noex, I0.ok.exfs, I0.ok.funs, I0.ok.frf⟩,
      I0.os, I0.bare, I0.base, I0.loc, I0.cell, I0.free, I0.freeC, I0.pin, I0.hok, I0.len⟩
  refine wpAny_mono ((hbody cdv A outer s H E (hr.deeper _)).run [] s1 (L2.start N vs) H _ I (run_body sm rr (fun _ _ _ _ z => z) q)) (fun fl s' hs => ?_) fun e s' hs => hs
  have fin : ∀ {σ' : L2.St} {H' : Hp} {v : V} {u : Value}, Inv (cxW P w K mg base N qual scope f cdv A outer s H E) [] σ' H' s' → RelV v u → Q v H' → CE outer P w H s Q u s' :=
    fun {σ' H' v u} J rv q => ⟨v, H', J.os, J.bare, J.base, J.hok, rv, q⟩
  rcases fl with _ | _ | _ | u
  · obtain ⟨σ', H', J, q⟩ := hs
    exact fin (v := V.non) (u := Value.none) J rfl q
  · obtain ⟨_, _, _, q⟩ := hs
    exact False.elim q
  · obtain ⟨_, _, _, q⟩ := hs
    exact False.elim q
  · obtain ⟨v, σ', H', J, rv, q⟩ := hs
    exact fin J rv q
end
section
variable {X : Cx} {g : G} {W : WX} {e : Expr} {es : List Expr} {fr : Av} {pos p : Pos} {x : Str} {k n : Nat} {f : Addr} {fd : FuncData} {ps : List Str} {m : Fn}
/-- f(e, ..) in a suite; nothing may be raised -/
def eCallW (n : Nat) (m : Fn) (fr : Av) : Ev := fun e S => (fr e S).bind fun ds S => if ds.length = n then lcNo (m ds S) else .bad
theorem cx_no {P : Program} {w : World} {outer : List PySem.Env} {H : Hp} {s : Shared} {e : Value} {s' : Shared} : L2.CX P w outer H s (fun _ _ _ => False) e s' → False := fun h => by
  obtain ⟨_, _, _, _, _, _, _, _, _, _, _, _, z⟩ := h
  exact z
theorem d_callW (F : FnW X.prog X.w X.K X.mg X.base k f fd ps (spF g n m)) (hr : L2H.RoomH k X.A) (hg : Gl X x) (hm : X.mg x = some (.ref f)) (hk : PySem.W.keepIn X.K (.ref f) = true) (hb : Binds X.K fd ps [])
    (ha : PA X (e :: es) (tA g W fr)) (hdb : (x == ("__debug__" : Str)) = false := by decide) (he : starEach (e :: es) X.env = (false, eval e X.env) :: starEach es X.env := by rfl) (hpl : (backTo pos (starEach es X.env)).any (·.1) = false := by rfl) :
    PE X (.Call (.Name x p) (e :: es) [] pos) (tE g W (eCallW n m fr)) := by
  refine ⟨fun pins s σ H Q I ⟨env, S, M, sm, er, q⟩ => ?_⟩
  have h : tA g W fr σ H fun vs H1 => spF g n m vs H1 Q fun _ _ _ => False := by
    refine ⟨env, S, M, sm, er, seqG q fun vs ds S1 M1 H1 n1 r1 q1 => ?_⟩
    obtain ⟨hl, q1⟩ := ifok q1
    refine ⟨ds, S1, M1, hl, n1.sim, r1, ?_⟩
    cases em : m ds S1 with
    | ok d S2 => rw [em] at q1; exact q1
    | exc x S2 => rw [em] at q1; exact (show False from q1).elim
    | bad => rw [em] at q1; exact q1
  refine wpAny_Call_Name_kw (ld_glob I hg hm ?_ hdb)
  refine PySem.W.callWith_K (h₀ := X.base) I.ok.mod.kin hk (thn (ha.run pos pins s σ H _ I h) fun us s1 ⟨vs, H1, I1, r, q⟩ => ⟨I1.kIn, ?_⟩) he hpl
  have hl : us.length = ps.length := by rw [← r.length]; exact F.len _ _ _ _ q
  have b := hb s1 us I1.kIn (by rw [List.append_nil]; exact hl)
  rw [List.append_nil] at b
  refine wpAny_call (codeAny_mono (F.run X.A X.stack s1 H1 ⟨us, []⟩ us vs Q _ hr I1.env0 b r q) fun r s' hq => ?_)
  cases r with
  | error e => exact (cx_no hq).elim
  | ok fl =>
    cases fl with
    | ret u => exact I1.after hq
    | next => exact False.elim hq
    | brk => exact False.elim hq
    | cont => exact False.elim hq
end
end DL

/-! DM7: x(lambda: body); the defs that call what they got. -/
namespace DL
open PySem PySem.Spec PyProof.Rows L2 LamX
/-- what is wished of an exception, by the mirror -/
abbrev kXE (g : G) (M : Mt) (H : Hp) (E : XK) : Exc → Sto → Prop := fun x S' => ∀ cls od M' H', Nxt g M H S' M' H' → ExR g M' cls od x → E cls od H'
section
variable (P : Program) (w : World) (K : PySem.W.Frag) (mg : Str → Option Value) (base : Heap) (g : G)
/-- a thing that was made at (h0, H0), below the frames F0, and that does th when it is called without arguments -/
structure LamC (k : Nat) (f : Addr) (F0 : List Addr) (H0 : Hp) (h0 : Heap) (M0 : Mt) (th : Sto → Ret D) : Prop where
  fn : (∃ (q : Str) (params : Arguments) (body : Expr) (scope : Scope) (cl : List (Str × Addr)) (pm : Value) (c : Addr) (ctv : Value), h0.get? f = some (PySem.W.kla_obj "<lambda>" q params body scope cl pm c ctv)) ∧ H0 f = none ∧ f ∉ F0
  does : ∀ (A : Around) (outer : List PySem.Env) (s : Shared) (H : Hp) (Q : VK) (E : XK) (S : Sto) (M : Mt), Room k A → Env0 P w K mg base A outer s H → Un F0 [] H0 H h0 s.heap → Sim g M H S → M0.Le M →
    (th S).on (kE g M H Q) (kXE g M H E) → codeAny (model P w) A (.call (.ref f) ⟨[], []⟩) (CR (L2.CX P w) outer P w H s Q E) s
/-- a def that is called with such a thing, and lets nothing out but its result -/
def TryC (j k : Nat) (ft : Addr) (mT : (Sto → Ret D) → Sto → Ret D) : Prop :=
  ∀ (A : Around) (outer : List PySem.Env) (s : Shared) (H : Hp) (Q : VK) (f : Addr) (S : Sto) (M : Mt) (th : Sto → Ret D), Room k A → Env0 P w K mg base A outer s H → LamC P w K mg base g j f (frs outer) H s.heap M th → Sim g M H S →
    (mT th S).on (kE g M H Q) (fun _ _ => False) → codeAny (model P w) A (.call (.ref ft) ⟨[.ref f], []⟩) (CR (L2.CX P w) outer P w H s Q fun _ _ _ => False) s
end
section
variable {P : Program} {w : World} {K : PySem.W.Frag} {mg : Str → Option Value} {base : Heap} {g : G}
theorem un_nest {L : Addr} {F : List Addr} {H H1 H2 : Hp} {h h1 h2 : Heap} (a : Un F [] H H1 h h1) (b : Un (L :: F) [] H1 H2 h1 h2) (hL : h.get? L = none) : Un F [] H H2 h h2 where
  keep := fun c o e n hc hx => by
    refine b.keep c o (a.keep c o e n hc hx) (a.free c o e n hx) (fun z => ?_) hx
    rcases List.mem_cons.mp z with z | z
    · rw [z, hL] at e; cases e
    · exact hc z
  slot := fun c o e n hc hx => by
    obtain ⟨sl, e1⟩ := a.slot c o e n hc hx
    obtain ⟨sl2, e2⟩ := b.slot c _ e1 (a.free c o e n hx) (List.mem_cons_of_mem _ hc) hx
    exact ⟨sl2, e2⟩
  free := fun c o e n hx => by
    by_cases hc : c ∈ F
    · obtain ⟨sl, e1⟩ := a.slot c o e n hc hx
      exact b.free c _ e1 (a.free c o e n hx) hx
    · exact b.free c o (a.keep c o e n hc hx) (a.free c o e n hx) hx
  there := fun c o e hx => by
    obtain ⟨o', e1⟩ := a.there c o e hx
    exact b.there c o' e1 hx
  tups := fun c xs e => b.tups c xs (a.tups c xs e)
  frzs := fun c o u e => b.frzs c o u (a.frzs c o u e)
  tbls := fun c ps e => by
    obtain ⟨m1, e1⟩ := a.tbls c ps e
    obtain ⟨m2, e2⟩ := b.tbls c _ e1
    exact ⟨m1 ++ m2, by rw [e2, Array.append_assoc]⟩
theorem LamC.mono {j k : Nat} {f : Addr} {F0 : List Addr} {H0 : Hp} {h0 : Heap} {M0 M1 : Mt} {th : Sto → Ret D} (l : LamC P w K mg base g j f F0 H0 h0 M0 th) (hj : j ≤ k) (le : M0.Le M1) : LamC P w K mg base g k f F0 H0 h0 M1 th :=
  ⟨l.fn, fun A outer s H Q E S M hr e0 un sm lm q => l.does A outer s H Q E S M (hr.mono hj) e0 un sm (le.trans lm) q⟩
theorem LamC.push {k : Nat} {f L : Addr} {F0 : List Addr} {H0 H1 : Hp} {h0 h1 : Heap} {M0 : Mt} {th : Sto → Ret D} (l : LamC P w K mg base g k f F0 H0 h0 M0 th) (a : Un F0 [] H0 H1 h0 h1) (hL : h0.get? L = none) : LamC P w K mg base g k f (L :: F0) H1 h1 M0 th :=
  ⟨by
    obtain ⟨⟨q, pa, bo, sc, cl, pm, c, ctv, e⟩, n1, n2⟩ := l.fn
    refine ⟨⟨q, pa, bo, sc, cl, pm, c, ctv, a.keep f _ e n1 n2 (by simp)⟩, a.free f _ e n1 (by simp), fun z => ?_⟩
    rcases List.mem_cons.mp z with z | z
    · rw [z, hL] at e; cases e
    · exact n2 z, fun A outer s H Q E S M hr e0 un sm lm q => l.does A outer s H Q E S M hr e0 (un_nest a un hL) sm lm q⟩
end
section
variable {X : Cx} {pins : List (Addr × Obj)} {σ : L2.St} {H : Hp} {s : Shared} {g : G} {M : Mt} {e : DL.Env} {fb : Ev} {k kt : Nat}
/-- a lambda does what its body's mirror says, in the slots of its maker -/
theorem lam_does {f c' : Addr} {ctv pm : Value} {q : Str} {params : Arguments} {body : Expr} {scope : Scope} (I : Inv X pins σ H s) (er : EnvR g M σ e) (L : LamS X.env.scope scope) (hq : X.env.qual ++ "<lambda>" = q)
    (hf : s.heap.get? f = some (PySem.W.kla_obj "<lambda>" q params body scope (cloFrom X.env.cells scope.names []) pm c' ctv)) (hfn : H f = none) (hfr : f ∉ frs X.stack) (hI : M.I c' = some (CodeO c' q))
    (hbind : ∀ (q : Str) (cl : List (Str × Addr)) (pm cv ctv : Value), bindArgs (PySem.W.kla_fn "<lambda>" q params body scope cl pm cv ctv) ⟨[], []⟩ = pure [])
    (hbody : ∀ (A : Around) (outer : List PySem.Env) (s : Shared) (H : Hp) (E : XK) (f c' : Addr), Room k (A.deeper (lamEnv X scope s.heap.objs.size f c')) → PE (lamCx X A outer s H E scope f c') body (tE g (fun cls d _ H => E cls d H) fb)) :
    LamC X.prog X.w X.K X.mg X.base g (k + 1) f (frs X.stack) H s.heap M (fb e) := by
  subst hq
  refine ⟨⟨⟨_, _, _, _, _, _, _, _, hf⟩, hfn, hfr⟩, fun A outer s1 H1 Q E S M1 hr e0 un sm le q => ?_⟩
  have of1 := un.keep f _ hf hfn hfr (by simp)
  have hO : ObjOk X.prog X.w H1 s1.heap c' (CodeO c' (X.env.qual ++ "<lambda>")) := e0.hok c' _ (sm.im _ _ (le.I _ _ hI))
  obtain ⟨⟨oc, vs, t, z1, z2, z3⟩, _, _⟩ := hO
  have lim : s1.heap.NoLimit := e0.mod.nolimit.keeps fun b o z => (e0.bs b o z).1
  refine PySem.W.kla_callFunE hr.depth of1 rfl L.co L.gen rfl ⟨c', oc, vs, t, rfl, z1, z2, z3⟩ ?_
  rw [hbind]
  refine wpAny_pure (wpAny_newFunctionEnv (fun y hy => (L.own y hy).2) (fun y hy => absurd hy (by simp)) (fun h1 hns hsb => ⟨lim.fresh _ hsb, ?_⟩) L.kind)
  show codeAny _ _ (.expr body (lamEnv X scope s1.heap.objs.size f c')) _ _
  have kp : ∀ b o, s1.heap.get? b = some o → h1.get? b = some o := fun b o z => hsb.extBut b o (Nat.ne_of_lt (Heap.lt_size z)) (Heap.get?_push_of_some _ z)
  have J : Inv (lamCx X A outer s1 H1 E scope f c') [] σ H1 { s1 with heap := h1, toks := s1.toks + ([] : List (Str × Value)).length } := lam_start2 I L e0 hr.hd un hns kp
  refine PySem.W.kla_codeExpr (wpAny_mono ((hbody A outer s1 H1 E f c' (hr.deeper _)).run [] _ _ H1 Q J ⟨e, S, M1, sm, er.le le, q⟩) (fun v s' ⟨v', H', J', rv, z⟩ => ?_) fun e s' z => z)
  exact ⟨v', H', J'.os, J'.bare, J'.base, J'.hok, rv, z⟩
theorem on_noE7 {α : Type} {r : Ret α} {K K' : α → Sto → Prop} (h : r.on K fun _ _ => False) (hK : ∀ a S, K a S → K' a S) : r.on K' fun _ _ => False := Ret.on_mono h hK fun _ _ z => z
/-- x(lambda: body) -/
def eLam (mT : (Sto → Ret D) → Sto → Ret D) (fb : Ev) : Ev := fun e S => lcNo (mT (fb e) S)
theorem d_lam {W : WX} {mT : (Sto → Ret D) → Sto → Ret D} {x q : Str} {ft c P : Addr} {params : Arguments} {body : Expr} {scope : Scope} {p lpos pos : Pos} (hg : Gl X x) (hm : X.mg x = some (.ref ft)) (hk : PySem.W.keepIn X.K (.ref ft) = true) (TC : TryC X.prog X.w X.K X.mg X.base g (k + 1) kt ft mT)
    (TB : TabB X.base X.mg c P) (hcode : X.env.code = .ref c) (hq : X.env.qual ++ "<lambda>" = q) (hmT : (P, q) ∈ g.T) (hu : ∀ p ∈ g.T, p.1 = P → p.2 = q) (hr : Room kt X.A) (L : LamS X.env.scope scope) (hdef : defaultsOf params X.env = ([], []))
    (hbind : ∀ (q : Str) (cl : List (Str × Addr)) (pm cv ctv : Value), bindArgs (PySem.W.kla_fn "<lambda>" q params body scope cl pm cv ctv) ⟨[], []⟩ = pure [])
    (hbody : ∀ (A : Around) (outer : List PySem.Env) (s : Shared) (H : Hp) (E : XK) (f c' : Addr), Room k (A.deeper (lamEnv X scope s.heap.objs.size f c')) → PE (lamCx X A outer s H E scope f c') body (tE g (fun cls d _ H => E cls d H) fb))
    (hdb : (x == ("__debug__" : Str)) = false := by decide) : PE X (.Call (.Name x p) [.Lambda params body scope lpos] [] pos) (tE g W (eLam mT fb)) := by
  refine ⟨fun pins s σ H Q I ⟨env, S, M, sm, er, z⟩ => ?_⟩
  have z := noexc z
  refine wpAny_Call_Name_kw (ld_glob I hg hm ?_ hdb)
  refine PySem.W.callWith_K (h₀ := X.base) I.ok.mod.kin hk ?_ (by rfl) (by rfl)
  show wpAny _ _ (spliced ((false, eval (.Lambda params body scope lpos) X.env) :: backTo pos (starEach [] X.env))) _ _ s
  refine Calls.spliced_cons (lam_mk I sm TB hcode hq hmT hu hdef (L.has I.ok) fun f c' pm' ctv H1 s' M1 I1 n1 hI hf hfn hfr => ?_)
  refine Calls.spliced_nil ⟨I1.kIn, ?_⟩
  have lc := lam_does (k := k) (fb := fb) I1 (er.le n1.le) L hq hf hfn hfr hI hbind hbody
  have z2 : (mT (fb env) S).on (kE g M1 H1 Q) fun _ _ => False := by
    cases em : mT (fb env) S with
    | ok d S2 => unfold eLam at z; rw [em] at z; exact kG_nx n1 z
    | exc x S2 => unfold eLam at z; rw [em] at z; exact (show False from z).elim
    | bad => unfold eLam at z; rw [em] at z; exact z
  refine wpAny_call (codeAny_mono (TC X.A X.stack s' H1 Q f S M1 (fb env) hr I1.env0 lc n1.sim z2) fun r s2 hq => ?_)
  cases r with
  | error e => exact (cx_no hq).elim
  | ok fl =>
    cases fl with
    | ret u => exact I1.after hq
    | next => exact False.elim hq
    | brk => exact False.elim hq
    | cont => exact False.elim hq
end
end DL

/-! DM8: the def that tries what it got; the def that hands it on. -/
namespace DL
open PySem PySem.Spec PyProof.Rows L2 LamX
abbrev WNo : WX := fun _ _ _ _ => False
/-- try: return ('', a()) / except (A, B) as e: suite; cs: the classes that are caught -/
def mTry (cs : List Nat) (u : Sv) (th : Sto → Ret D) : Sto → Ret D := fun S => match th S with
  | .ok d S1 => .ok (.tup [.str "", d]) S1
  | .exc x S1 => if cs.contains x.c = true then (match u [none, some (.exc x.c x.fs)] S1 with
    | .rt d S2 => .ok d S2
    | _ => .bad) else .bad
  | .bad => .bad
section
variable {P : Program} {w : World} {K : PySem.W.Frag} {mg : Str → Option Value} {base : Heap} {g : G}
section
variable {Y : Cx} {f : Addr} {M : Mt} {th : Sto → Ret D} {k : Nat} {a : Str} {p1 p2 : Pos} {W : WX}
/-- what a call of the given thing reads -/
def tAsk (g : G) (f : Addr) (M : Mt) (th : Sto → Ret D) (W : WX) : TE := fun σ H Q => σ[0]? = some (some (.ref f)) ∧ ∃ (S : Sto) (M' : Mt), Sim g M' H S ∧ M.Le M' ∧ (th S).on (kE g M' H Q) (kX g W M' H σ)
theorem pe_ask (lc : LamC Y.prog Y.w Y.K Y.mg Y.base g k f Y.fs Y.H_0 Y.s_0.heap M th) (hex : Y.ex = []) (hr : Room k Y.A) (tk : Takes Y W) (hN : Y.N[0]? = some a) (hv : Vis Y.env.scope a) (hd : (a == ("__debug__" : Str)) = false) (hcd : (a == ("__classdict__" : Str)) = false) :
    PE Y (.Call (.Name a p1) [] [] p2) (tAsk g f M th W) := by
  refine ⟨fun pins s σ H Q I ⟨h0, S, M', sm, le, q⟩ => ?_⟩
  refine wpAny_Call_Name_kw (thn ((pe_var (pos := p1) (i := 0) hN hv hd hcd).run pins s σ H (fun v H1 => v = .ref f ∧ H1 = H) I ⟨.ref f, h0, rfl, rfl⟩) fun u s1 ⟨v, H1, I1, r1, ev, eH⟩ => ?_)
  subst ev eH
  obtain rfl : u = Value.ref f := r1
  have un := I1.base
  rw [hex] at un
  obtain ⟨⟨q', pa, bo, sc, cl, pm, c, ctv, e⟩, n1, n2⟩ := lc.fn
  refine PySem.W.callWith_F0 ⟨_, _, _, _, un.keep f _ e n1 n2 (by simp)⟩ ?_
  refine wpAny_call (codeAny_mono (lc.does Y.A Y.stack s1 H1 Q (fun cls d H' => W cls d σ H') S M' hr I1.env0 un sm le q) fun r s' hq => ?_)
  cases r with
  | error e => exact passAt tk σ pins H1 s1 e s' I1 hq
  | ok fl =>
    cases fl with
    | ret u => exact I1.after hq
    | next => exact False.elim hq
    | brk => exact False.elim hq
    | cont => exact False.elim hq
end
theorem try_does {name qual a n x1 x2 : Str} {params : Arguments} {scope : Scope} {ft : Addr} {fd : FuncData} {k : Nat} {cs : List Nat} {u : Sv} {c1 c2 : Value} {b₀ : Stmt} {suite : List Stmt} {j kk kk2 : Nat} {p1 p2 p3 p4 p5 q1 q2 tpos pos pos' : Pos}
    (F : FunD K name qual params [.Try [.Return (some (.Tuple [.Constant (.str "") j p1, .Call (.Name a p2) [] [] p3] kk p4)) p5] [.ExceptHandler (some (.Tuple [.Name x1 q1, .Name x2 q2] kk2 tpos)) (some n) (b₀ :: suite) pos'] [] [] pos] scope [] [] ft fd)
    (Sc : FnScope [a, n] [a] scope) (hb : L2.Binds K fd [a] []) (hln : scope.names.lookup n = some .local) (hva : Vis scope a) (hda : (a == ("__debug__" : Str)) = false) (hca : (a == ("__classdict__" : Str)) = false)
    (g1 : scope.names.lookup x1 = some .globalImplicit) (d1 : (x1 == ("__debug__" : Str)) = false) (m1 : mg x1 = some c1) (g2 : scope.names.lookup x2 = some .globalImplicit) (d2 : (x2 == ("__debug__" : Str)) = false) (m2 : mg x2 = some c2)
    (hexm : ∀ c ∈ cs, PySem.W.exmAny K (.ref (g.C c)) [c1, c2] = some true)
    (hsu : ∀ (cdv : Value) (A : Around) (outer : List PySem.Env) (s : Shared) (H : Hp) (e : Addr) (pn : List (Addr × Obj)), Room k (A.deeper (envOfC qual scope s.heap.objs.size ft cdv)) →
      PSs ((cxOf (L2.CX P w) P w K mg base [a, n] qual scope ft cdv A outer s H fun _ _ _ => False).suite e pn) (b₀ :: suite) (tS g WNo u)) :
    TryC P w K mg base g k (k + 1) ft (mTry cs u) := by
  obtain ⟨oc, od, dV, kV, doc, pm, an, cdv, ct, osl, rfl, lk, hcd, _, _⟩ := F.ex
  intro A outer s H Q f S M th hr e0 lc sm q
  refine run_ofS (N := [a, n]) (ps := [a]) (us := [.ref f]) (vs := [.ref f]) lk hcd Sc hr e0 (hb s [.ref f] (e0.mod.kin.keeps fun b o z => (e0.bs b o z).1) rfl) (.cons rfl .nil) rfl fun hr' => ?_
  refine ⟨_, pss_one (ps_try_hot (X := cxOf (L2.CX P w) P w K mg base [a, n] qual scope ft cdv A outer s H fun _ _ _ => False) (i := 1) rfl rfl rfl Sc.nd rfl hln ⟨g1, d1, .inl m1⟩ ⟨g2, d2, .inl m2⟩
    (tb := fun W D σ H => tAsk g f M th W σ H fun v H1 => ∀ p, H1 p = none → D.rt (.ref p) (upd H1 p (.tup [.str "", v]))) (fun W pn xe tk po => ?_) (fun e pn => hsu cdv A outer s H e pn hr')), ?_⟩
  · refine pss_one ((ps_ret (pe_tup (pa_cons pe_str (pa_cons (pe_ask (a := a) (p1 := p2) (p2 := p3) (g := g) (f := f) (M := M) (th := th) (k := k) (W := W) lc rfl hr' tk rfl hva hda hca) pa_nil)))).weak fun D σ H' h => ?_)
    obtain ⟨h0, S', M', sm', le, z⟩ := h
    refine ⟨h0, S', M', sm', le, Ret.on_mono z (fun d S2 z v M2 H2 n2 r2 => ?_) fun _ _ z => z⟩
    have hs := sizeLine_eq
    exact ⟨by simp; omega, fun p np => z v M2 H2 n2 r2 p np⟩
  · refine ⟨rfl, S, M, sm, .refl _, ?_⟩
    unfold mTry at q
    cases eth : th S with
    | bad => rw [eth] at q; exact q
    | ok d S1 =>
      rw [eth] at q
      intro v M1 H1 n1 r1 p np
      exact q _ _ _ (n1.trans (Nxt.laid n1.sim np)) (rep_tup n1.sim np (.cons (.str _) (.cons r1 .nil)))
    | exc x S1 =>
      rw [eth] at q
      dsimp only at q
      obtain ⟨hc, q⟩ := ifok q
      intro cls od M1 H1 n1 rx
      cases rx with
      | @mk c dx fs ds hI rf =>
        refine ⟨g.C c, dx, rfl, rfl, hexm c (by simpa using hc), fun e ne => ?_⟩
        have n2 := Nxt.laid (o := exv e (g.C c) (some dx)) n1.sim ne exv_nt
        have hd := n1.sim.im _ _ hI
        refine ⟨[none, some (.exc c ds)], S1, _, n2.sim, ⟨rfl, fun i d hi => ?_⟩, ?_⟩
        · cases i with
          | zero => simp at hi
          | succ i =>
            cases i with
            | succ i => simp at hi
            | zero =>
              simp at hi
              subst hi
              exact ⟨.ref e, rfl, .exc (dx := dx) upd_same (n2.le.I _ _ hI) (rf.le n2.le)⟩
        · dsimp only at q
          cases eu : u [none, some (.exc c ds)] S1 with
          | rt d S2 =>
            rw [eu] at q
            exact fun v M3 H3 n3 r3 => q v M3 H3 ((n1.trans n2).trans n3) r3
          | nx e S2 => rw [eu] at q; exact q.elim
          | bk e S2 => rw [eu] at q; exact q.elim
          | ct e S2 => rw [eu] at q; exact q.elim
          | exc x e S2 => rw [eu] at q; exact q.elim
          | bad => rw [eu] at q; exact q.elim
/-- found = tried(a); the rest -/
def mWhy (mT : (Sto → Ret D) → Sto → Ret D) (r : Sv) (th : Sto → Ret D) : Sto → Ret D := fun S => match mT th S with
  | .ok d S1 => (match r [none, some d] S1 with
    | .rt d S2 => .ok d S2
    | _ => .bad)
  | _ => .bad
theorem why_does {name qual a n x : Str} {params : Arguments} {scope : Scope} {ft fw : Addr} {fd : FuncData} {k j : Nat} {mT : (Sto → Ret D) → Sto → Ret D} {r : Sv} {b₀ : Stmt} {rest : List Stmt} {p1 p2 p3 p4 p5 : Pos}
    (F : FunD K name qual params (.Assign [.Name n p1] (.Call (.Name x p2) [.Name a p3] [] p4) p5 :: b₀ :: rest) scope [] [] fw fd) (TC : TryC P w K mg base g j k ft mT)
    (Sc : FnScope [a, n] [a] scope) (hb : L2.Binds K fd [a] []) (hln : scope.names.lookup n = some .local) (hva : Vis scope a) (hda : (a == ("__debug__" : Str)) = false) (hca : (a == ("__classdict__" : Str)) = false)
    (g1 : scope.names.lookup x = some .globalImplicit) (d1 : (x == ("__debug__" : Str)) = false) (m1 : mg x = some (.ref ft)) (hk : PySem.W.keepIn K (.ref ft) = true)
    (hre : ∀ (cdv : Value) (A : Around) (outer : List PySem.Env) (s : Shared) (H : Hp), Room k (A.deeper (envOfC qual scope s.heap.objs.size fw cdv)) → PSs (cxOf (L2.CX P w) P w K mg base [a, n] qual scope fw cdv A outer s H fun _ _ _ => False) (b₀ :: rest) (tS g WNo r))
    (hsw : ∀ env : PySem.Env, swapsWith (.Call (.Name x p2) [.Name a p3] [] p4) (some (.Name n p1)) p5.line env = pure false := by intro _; rfl) :
    TryC P w K mg base g j (k + 1) fw (mWhy mT r) := by
  obtain ⟨oc, od, dV, kV, doc, pm, an, cdv, ct, osl, rfl, lk, hcd, _, _⟩ := F.ex
  intro A outer s H Q f S M th hr e0 lc sm q
  refine run_ofS (N := [a, n]) (ps := [a]) (us := [.ref f]) (vs := [.ref f]) lk hcd Sc hr e0 (hb s [.ref f] (e0.mod.kin.keeps fun b o z => (e0.bs b o z).1) rfl) (.cons rfl .nil) rfl fun hr' => ?_
  have hcall : PE (cxOf (L2.CX P w) P w K mg base [a, n] qual scope fw cdv A outer s H fun _ _ _ => False) (.Call (.Name x p2) [.Name a p3] [] p4)
      (fun σ H' Q' => σ[0]? = some (some (.ref f)) ∧ ∃ (S' : Sto) (M' : Mt), Sim g M' H' S' ∧ M.Le M' ∧ (mT th S').on (kE g M' H' Q') fun _ _ => False) := by
    refine ⟨fun pins s1 σ H1 Q' I ⟨h0, S', M', sm', le, z⟩ => ?_⟩
    refine wpAny_Call_Name_kw (ld_glob I g1 m1 ?_ d1)
    refine PySem.W.callWith_K (h₀ := base) I.ok.mod.kin hk (thn ((pa_cons (pe_var (pos := p3) (i := 0) rfl hva hda hca) pa_nil).run p4 pins s1 σ H1 (fun vs H2 => vs = [.ref f] ∧ H2 = H1) I ⟨.ref f, h0, rfl, rfl⟩) fun us s2 ⟨vs, H2, I2, r2, ev, eH⟩ => ⟨I2.kIn, ?_⟩) (by rfl) (by rfl)
    subst ev eH
    cases r2 with
    | cons r3 r4 =>
      cases r4
      cases r3
      have un : Un (frs outer) [] H H2 s.heap s2.heap := I2.base
      have hL : s.heap.get? s.heap.objs.size = none := by
        cases e : s.heap.get? s.heap.objs.size with
        | none => rfl
        | some o => exact absurd (Heap.lt_size e) (Nat.lt_irrefl _)
      have l2 := (lc.push un hL).mono (Nat.le_refl _) le
      refine wpAny_call (codeAny_mono (TC _ _ s2 H2 Q' f S' M' th hr' I2.env0 l2 sm' z) fun r s' hq => ?_)
      cases r with
      | error e => exact (cx_no hq).elim
      | ok fl =>
        cases fl with
        | ret u => exact I2.after hq
        | next => exact False.elim hq
        | brk => exact False.elim hq
        | cont => exact False.elim hq
  refine ⟨_, pss_cons (ps_set (i := 1) Sc.nd rfl (.inl hln) hcall (hsw _)) (hre cdv A outer s H hr'), ?_⟩
  refine ⟨rfl, S, M, sm, .refl _, ?_⟩
  unfold mWhy at q
  cases em : mT th S with
  | bad => rw [em] at q; exact q
  | exc x S1 => rw [em] at q; exact q.elim
  | ok d S1 =>
    rw [em] at q
    dsimp only at q
    intro v M1 H1 n1 r1
    refine ⟨[none, some d], S1, M1, n1.sim, ⟨rfl, fun i d' hi => ?_⟩, ?_⟩
    · cases i with
      | zero => simp at hi
      | succ i =>
        cases i with
        | succ i => simp at hi
        | zero =>
          simp at hi
          subst hi
          exact ⟨v, rfl, r1⟩
    · cases eu : r [none, some d] S1 with
      | rt d S2 =>
        rw [eu] at q
        exact fun v M3 H3 n3 r3 => q v M3 H3 (n1.trans n3) r3
      | nx e S2 => rw [eu] at q; exact q.elim
      | bk e S2 => rw [eu] at q; exact q.elim
      | ct e S2 => rw [eu] at q; exact q.elim
      | exc x e S2 => rw [eu] at q; exact q.elim
      | bad => rw [eu] at q; exact q.elim
end
end DL

/-! DM9: instances: made, their attributes, a base class's __init__ called. -/
namespace DL
open PySem PySem.Spec PyProof.Rows L2
def putFD (f : Str) (v : D) : List (Str × D) → List (Str × D)
  | [] => [(f, v)]
  | (h, x) :: r => if h = f then (h, v) :: r else (h, x) :: putFD f v r
section
variable {g : G} {M : Mt}
theorem RepF.put {f : Str} {v : V} {d : D} (rv : Rep g M v d) : ∀ {fs : List (Str × V)} {ds : List (Str × D)}, RepF g M fs ds → RepF g M (putF f v fs) (putFD f d ds)
  | _, _, .nil => .cons rv .nil
  | _, _, .cons (k := k) a b => by
    unfold putF putFD
    by_cases h : k = f
    · rw [if_pos h, if_pos h]; exact .cons rv b
    · rw [if_neg h, if_neg h]; exact .cons a (b.put rv)
theorem RepF.len : ∀ {fs : List (Str × V)} {ds : List (Str × D)}, RepF g M fs ds → fs.length = ds.length
  | _, _, .nil => rfl
  | _, _, .cons _ b => congrArg Nat.succ b.len
theorem sim_ins {H : Hp} {S : Sto} {l c : Nat} {ds : List (Str × D)} {v : V} (s : Sim g M H S) (r : Rep g M v (.loc l)) (h : S[l]? = some (.ins c ds)) : ∃ a dx fs, v = .ref a ∧ M.m[l]? = some a ∧ H a = some (.ins (g.C c) dx fs) ∧ RepF g M fs ds := by
  obtain ⟨a, rfl, ha⟩ := r.at_loc
  obtain ⟨_, q⟩ := s.lv l a _ ha h rfl
  cases q with
  | ins e rf => exact ⟨a, _, _, rfl, ha, e, rf⟩
end
/-- an instance by its value: its class and attributes -/
def insOf (S : Sto) : D → Option (Nat × List (Str × D))
  | .ins c fs => some (c, fs)
  | .loc l => match S[l]? with
    | some (.ins c fs) => some (c, fs)
    | _ => none
  | _ => none
section
variable {X : Cx} {g : G} {W : WX} {e o v : Expr} {es : List Expr} {fa fb : Ev} {fr fk : Av} {pos p apos pos' : Pos} {x f n : Str}
/-- classes whose attribute n is a plain attribute of instances -/
def FldAll (K : PySem.W.Frag) (g : G) (cs : List Nat) (n : Str) : Prop := ∀ c ∈ cs, Cls K (g.C c) ∧ NoAttr K (g.C c) n
/-- self.n = e -/
def sAttr (cs : List Nat) (n : Str) (fo fv : Ev) : Sv := fun e S => (fv e S).into e fun d S => (fo e S).into e fun o S => match o with
  | .loc l => match S[l]? with
    | some (.ins c fs) => if cs.contains c = true ∧ fs.length ≤ 100 then .nx e (S.set l (.ins c (putFD n d fs))) else .bad
    | _ => .bad
  | _ => .bad
theorem s_attr {cs : List Nat} (hF : FldAll X.K g cs n) (ho : PE X o (tE g W fa)) (hv : PE X v (tE g W fb)) (hs : swapsWith v (some (.Attribute o n pos')) pos.line X.env = pure false := by rfl) : PS X (.Assign [.Attribute o n pos'] v pos) (tS g W (sAttr cs n fa fb)) := by
  refine (ps_fld ho hv hs).weak fun D σ H ⟨env, S, M, s, er, q⟩ => ⟨env, S, M, s, er, seqS er q fun y d S1 M1 H1 n1 r1 er1 q1 => ?_⟩
  refine ⟨env, S1, M1, n1.sim, er1, seqS er1 q1 fun z o' S2 M2 H2 n2 r2 er2 q2 => ?_⟩
  cases o' with
  | loc l =>
    dsimp only at q2
    cases hl : S2[l]? with
    | none => rw [hl] at q2; exact q2.elim
    | some mo =>
      rw [hl] at q2
      cases mo with
      | ins c fs =>
        dsimp only at q2
        obtain ⟨⟨hc, hlen⟩, q2⟩ := ifS q2
        obtain ⟨a, dx, vs, rfl, ha, ea, rf⟩ := sim_ins n2.sim r2 hl
        obtain ⟨h1, h2⟩ := hF c (by simpa using hc)
        have hlen2 := rf.len
        refine ⟨a, g.C c, dx, vs, rfl, ea, h1, h2, by omega, ?_⟩
        have n3 := Nxt.write n2.sim ha hl rfl (o := .ins (g.C c) dx (putF n y vs)) (mo' := .ins c (putFD n d fs)) (.ins upd_same (rf.put (r1.le n2.le)))
        exact q2 σ M2 _ n3 er2
      | lst _ => exact q2.elim
      | dct _ => exact q2.elim
      | dead => exact q2.elim
  | _ => exact q2.elim
/-- e.n -/
def eAttr (cs : List Nat) (n : Str) (fa : Ev) : Ev := fun e S => (fa e S).bind fun d S => match insOf S d with
  | some (c, fs) => if cs.contains c = true then Ret.of (fs.lookup n) S else .bad
  | none => .bad
theorem d_attr {cs : List Nat} (hF : FldAll X.K g cs n) (he : PE X e (tE g W fa)) (hb : attributeBase e n X.env (eval e X.env) = eval e X.env := by rfl) : PE X (.Attribute e n pos) (tE g W (eAttr cs n fa)) := by
  refine (pe_fld he hb).weak fun σ H Q ⟨env, S, M, s, er, q⟩ => ⟨env, S, M, s, er, seqG q fun y d S1 M1 H1 n1 r1 q1 => ?_⟩
  cases hi : insOf S1 d with
  | none => rw [hi] at q1; exact (show False from q1).elim
  | some cf =>
    obtain ⟨c, fs⟩ := cf
    rw [hi] at q1
    dsimp only at q1
    obtain ⟨hc, q1⟩ := ifok q1
    obtain ⟨d', hd, q1⟩ := Ret.of_on q1
    obtain ⟨h1, h2⟩ := hF c (by simpa using hc)
    have key : ∃ a dx vs, y = .ref a ∧ H1 a = some (.ins (g.C c) dx vs) ∧ RepF g M1 vs fs := by
      cases d with
      | ins c' fs' =>
        cases hi
        cases r1 with
        | ins e rf => exact ⟨_, _, _, rfl, n1.sim.im _ _ e, rf⟩
      | loc l =>
        unfold insOf at hi
        dsimp only at hi
        cases hl : S1[l]? with
        | none => rw [hl] at hi; cases hi
        | some mo =>
          rw [hl] at hi
          cases mo with
          | ins c' fs' =>
            cases hi
            obtain ⟨a, dx, vs, e1, _, e2, e3⟩ := sim_ins n1.sim r1 hl
            exact ⟨a, dx, vs, e1, e2, e3⟩
          | lst _ => cases hi
          | dct _ => cases hi
          | dead => cases hi
      | _ => cases hi
    obtain ⟨a, dx, vs, rfl, ea, rf⟩ := key
    obtain ⟨w, hw, rw'⟩ := rf.look hd
    exact ⟨a, g.C c, dx, vs, w, rfl, ea, h1, h2, hw, kG_here n1.sim rw' q1⟩
/-- -e -/
def eNeg (fa : Ev) : Ev := fun e S => (fa e S).bind fun d S => match d with
  | .int i => .ok (.int (-i)) S
  | _ => .bad
theorem d_neg (he : PE X e (tE g W fa)) : PE X (.UnaryOp .USub e pos) (tE g W (eNeg fa)) := by
  refine (pe_un un_neg he).weak fun σ H Q ⟨env, S, M, s, er, q⟩ => ⟨env, S, M, s, er, seqG q fun y d S1 M1 H1 n1 r1 q1 => ?_⟩
  cases d with
  | int i =>
    cases r1
    exact ⟨i, rfl, kG_here n1.sim (Rep.int _) q1⟩
  | _ => exact (show False from q1).elim
end
section
variable {X : Cx} {g : G} {W : WX} {e : Expr} {es : List Expr} {fr fk : Av} {pos p : Pos} {x : Str} {k n N c : Nat} {f C : Addr} {fd : FuncData} {ps ks : List Str} {m : Fn} {kws : List Keyword} {gV : List V → List V → List V} {gD : List D → List D → List D}
theorem run_makeD {sp : Sp} {E : XK} {pins : List (Addr × Obj)} {σ : L2.St} {H : Hp} {s : Shared} {Q : VK} {us ws : List Value} {vs zs : List V} (Mc : Mk X.K C f) (F : FnOk X.prog X.w X.K X.mg X.base (L2.CX X.prog X.w) k f fd ps sp) (hr : Room (k + 1) X.A) (hb : BindD X.K fd ps (n + 1) ks gV) (hx : PassesAt (L2.CX X.prog X.w) X σ E)
    (I : Inv X pins σ H s) (r : Vals vs us) (rz : Vals zs ws) (l1 : vs.length = n) (l2 : zs.length = ks.length)
    (h : ∀ x dx, H x = none → H dx = none → dx ≠ x → sp (gV (.ref x :: vs) zs) (upd (upd H dx (.own x)) x (.ins C dx [])) (fun v H2 => v = .non ∧ Q (.ref x) H2) E) : wpAny (model X.prog X.w) X.A (call (.ref C) us (ks.zip ws)) (EP X pins σ Q) X.xe s := by
  have hq := h (s.heap.objs.size + 1) s.heap.objs.size (I.hok.fresh (Nat.le_succ _)) (I.hok.fresh (Nat.le_refl _)) (Nat.ne_of_lt (Nat.lt_succ_self _))
  have I2 := Inv.made (C := C) I
  obtain ⟨bs, b1, b2⟩ := hb.to _ (Value.ref (s.heap.objs.size + 1) :: us) ws (V.ref (s.heap.objs.size + 1) :: vs) zs I2.kIn (by rw [List.length_cons, ← r.length, l1]) (rz.length.symm.trans l2) (.cons rfl r) rz
  refine wpAny_call (make_map (f := f) I.kIn Mc.makes Mc.init (beq_iff_eq.mp Mc.fn) (codeAny_mono (F.run _ X.stack _ _ ⟨Value.ref (s.heap.objs.size + 1) :: us, ks.zip ws⟩ bs _ _ E (hr.make C us (ks.zip ws)) (I2.env0.make C us (ks.zip ws)) b1 b2 hq) fun r s' z => ?_))
  cases r with
  | error e => exact hx pins _ _ e s' I2 z
  | ok fl =>
    cases fl with
    | ret u =>
      obtain ⟨v, H', I3, rv, ev, q3⟩ := I2.after z
      subst ev
      exact ⟨rv, ⟨V.ref (s.heap.objs.size + 1), H', I3, rfl, q3⟩⟩
    | next => exact False.elim z
    | brk => exact False.elim z
    | cont => exact False.elim z
/-- C(e, .., k = v, ..): a new instance at the next place -/
def eMake (np nk N c : Nat) (m : Fn) (gD : List D → List D → List D) (fr fk : Av) : Ev := fun e S => (fr e S).bind fun ds S => (fk e S).bind fun zs S => if (ds.length = np ∧ zs.length = nk) ∧ (gD (.loc S.length :: ds) zs).length = N then
  (m (gD (.loc S.length :: ds) zs) (S ++ [.ins c []])).bind fun r S' => (match r with
    | .non => .ok (.loc S.length) S'
    | _ => .bad) else .bad
theorem w_make {nk : Nat} (hg : ∀ M vs ds zs es, ds.length = n + 1 → es.length = nk → Reps g M vs ds → Reps g M zs es → Reps g M (gV vs zs) (gD ds es)) {σ : L2.St} {H : Hp} {Q : VK} (h : tE g W (eMake n nk N c m gD fr fk) σ H Q) :
    tA g W fr σ H fun vs H1 => tA g W fk σ H1 fun zs H2 => vs.length = n ∧ zs.length = nk ∧ ∀ x dx, H2 x = none → H2 dx = none → dx ≠ x → spF g N m (gV (.ref x :: vs) zs) (upd (upd H2 dx (.own x)) x (.ins (g.C c) dx [])) (fun v H3 => v = .non ∧ Q (.ref x) H3) (WE W σ) := by
  obtain ⟨env, S, M, s, er, q⟩ := h
  refine ⟨env, S, M, s, er, seqG q fun vs ds S1 M1 H1 n1 r1 q1 => ?_⟩
  refine ⟨env, S1, M1, n1.sim, er.le n1.le, seqG q1 fun zs es S2 M2 H2 n2 r2 q2 => ?_⟩
  obtain ⟨⟨⟨hl1, hl2⟩, hl3⟩, q2⟩ := ifok q2
  refine ⟨by rw [r1.len]; exact hl1, by rw [r2.len]; exact hl2, fun x dx nx nd ne => ?_⟩
  obtain ⟨f1, f2⟩ := mem_not n2.sim nd
  have n3 := (Nxt.refl n2.sim).offR (o := .own x) nd f1 f2 (kd_none nd)
  have nx' : upd H2 dx (.own x) x = none := by rw [upd_ne (Ne.symm ne)]; exact nx
  have n4 := n3.trans (Nxt.grow (o := .ins (g.C c) dx []) (mo := .ins c []) n3.sim nx' fun M' _ => .ins upd_same .nil)
  have rx : Rep g ⟨M2.I, M2.m ++ [x]⟩ (.ref x) (.loc S2.length) := .loc (by
    show (M2.m ++ [x])[S2.length]? = some x
    rw [List.getElem?_append_right (by rw [n2.sim.len]; exact Nat.le_refl _), n2.sim.len]
    simp)
  refine ⟨_, _, _, hl3, n4.sim, hg _ _ _ _ _ (by rw [List.length_cons, hl1]) hl2 (.cons rx ((r1.le n2.le).le n4.le)) (r2.le n4.le), ?_⟩
  refine Ret.on_mono (Ret.on_bind q2) (fun d S3 z v M3 H3 n5 r5 => ?_) fun y S3 z cls od M3 H3 n5 r5 => z cls od M3 H3 (n4.trans n5) r5
  cases d with
  | non =>
    cases r5
    exact ⟨rfl, z _ _ _ (n4.trans n5) (rx.le n5.le)⟩
  | _ => exact (show False from z).elim
theorem d_make (hC : g.C c = C) (Mc : Mk X.K C f) (F : FnOk X.prog X.w X.K X.mg X.base (L2.CX X.prog X.w) k f fd ps (spF g N m)) (hr : Room (k + 1) X.A) (hg : Gl X x) (hm : X.mg x = some (.ref C)) (hb : BindD X.K fd ps (n + 1) ks gV)
    (hgD : ∀ M vs ds zs es, ds.length = n + 1 → es.length = ks.length → Reps g M vs ds → Reps g M zs es → Reps g M (gV vs zs) (gD ds es)) (tk : Takes X W) (ha : PA X (e :: es) (tA g W fr)) (hkw : PK X kws (tA g W fk)) (hall : (backToKw pos (keywordEach kws X.env)).all (·.1.isSome) = true := by rfl) (hks : (backToKw pos (keywordEach kws X.env)).filterMap (·.1) = ks := by rfl)
    (hdb : (x == ("__debug__" : Str)) = false := by decide) (he : starEach (e :: es) X.env = (false, eval e X.env) :: starEach es X.env := by rfl)
    (hpl : ((backTo pos (starEach (e :: es) X.env)).any (·.1) || (backToKw pos (keywordEach kws X.env)).any (·.1.isNone)) = false := by rfl) : PE X (.Call (.Name x p) (e :: es) kws pos) (tE g W (eMake n ks.length N c m gD fr fk)) := by
  subst hC
  refine ⟨fun pins s σ H Q I h => ?_⟩
  have h := w_make hgD h
  refine wpAny_Call_Name_kw (ld_glob I hg hm ?_ hdb)
  refine PySem.W.callWith_KW (h₀ := X.base) I.ok.mod.kin Mc.kp hall (thn (ha.run pos pins s σ H _ I h) fun us s1 ⟨vs, H1, I1, r, q⟩ => ?_) hpl he
  refine thn (hkw.run pos pins s1 σ H1 _ I1 q) fun ws s2 ⟨zs, H2, I2, rz, l1, l2, q2⟩ => ⟨I2.kIn, ?_⟩
  rw [hks]; exact run_makeD Mc F hr hb (passAt tk σ) I2 r rz l1 l2 q2
theorem d_make0 (hC : g.C c = C) (Mc : Mk X.K C f) (F : FnOk X.prog X.w X.K X.mg X.base (L2.CX X.prog X.w) k f fd ps (spF g N m)) (hr : Room (k + 1) X.A) (hg : Gl X x) (hm : X.mg x = some (.ref C)) (hb : BindD X.K fd ps 1 ks gV)
    (hgD : ∀ M vs ds zs es, ds.length = 1 → es.length = ks.length → Reps g M vs ds → Reps g M zs es → Reps g M (gV vs zs) (gD ds es)) (tk : Takes X W) (hkw : PK X kws (tA g W fk)) (hall : (backToKw pos (keywordEach kws X.env)).all (·.1.isSome) = true := by rfl) (hks : (backToKw pos (keywordEach kws X.env)).filterMap (·.1) = ks := by rfl)
    (hdb : (x == ("__debug__" : Str)) = false := by decide) (hpl : ((backTo pos (starEach [] X.env)).any (·.1) || (backToKw pos (keywordEach kws X.env)).any (·.1.isNone)) = false := by rfl) : PE X (.Call (.Name x p) [] kws pos) (tE g W (eMake 0 ks.length N c m gD aNil fk)) := by
  subst hC
  refine ⟨fun pins s σ H Q I h => ?_⟩
  obtain ⟨env, S, M, sm, er, q⟩ := w_make (n := 0) (fr := aNil) hgD h
  have q := q [] M H (.refl sm) .nil
  refine wpAny_Call_Name_kw (ld_glob I hg hm ?_ hdb)
  refine PySem.W.callWith_KW0 (h₀ := X.base) I.ok.mod.kin Mc.kp hall (thn (hkw.run pos pins s σ H _ I q) fun ws s2 ⟨zs, H2, I2, rz, l1, l2, q2⟩ => ⟨I2.kIn, ?_⟩) hpl
  rw [hks]; exact run_makeD Mc F hr hb (passAt tk σ) I2 .nil rz l1 l2 q2
/-- what the written part says of C.n, a def of the class C -/
structure ClsDef (K : PySem.W.Frag) (C : Addr) (n : Str) (f : Addr) : Prop where
  rd : ClX.CRead K C (.type "type")
  at_ : PySem.W.findCls K (.ref C) (.type "type") n = some (.val (.ref f))
  kp : PySem.W.keepIn K (.ref f) = true
/-- C.n(e, ..): the class's def, called as it stands -/
theorem d_clsCall {y nm : Str} {p1 p2 : Pos} {pl : Sem Bool} {ds : List Value} {dvs : List V} {dds : List D} (T : ClsDef X.K C nm f) (hg : Gl X y) (hm : X.mg y = some (.ref C)) (F : FnOk X.prog X.w X.K X.mg X.base (L2.CX X.prog X.w) k f fd ps (spF g N m)) (hr : Room k X.A) (hb : Binds X.K fd ps ds) (hd : Vals dvs ds)
    (hdd : ∀ M, Reps g M dvs dds) (tk : Takes X W) (ha : PA X (e :: es) (tA g W fr))
    (hc : eval (.Call (.Attribute (.Name y p1) nm p2) (e :: es) [] pos) X.env = (do
      let ov ← eval (.Name y p1) X.env
      standAt p2.atName
      let (f, first) ← holding [ov] (getMethod ov nm pl)
      callWith pos f first (backTo pos (starEach (e :: es) X.env)) (backToKw pos (keywordEach [] X.env))) := by rfl)
    (hdb : (y == ("__debug__" : Str)) = false := by decide) (he : starEach (e :: es) X.env = (false, eval e X.env) :: starEach es X.env := by rfl) (hpl : (backTo pos (starEach es X.env)).any (·.1) = false := by rfl) :
    PE X (.Call (.Attribute (.Name y p1) nm p2) (e :: es) [] pos) (tE g W (eCall N m dds fr)) := by
  refine ⟨fun pins s σ H Q I h => ?_⟩
  have h2 := w_call (ta := tA g W fr) hdd h
  refine PySem.W.methodCall_KW (ld_glob I hg hm ?_ hdb) hc
  refine PySem.W.method_cls I.kIn T.rd.ga (ClX.getcval_ok (v := V.ref f) I T.rd ⟨T.at_, rfl⟩ fun s' I' => ?_)
  refine PySem.W.callWith_K (first := []) (h₀ := X.base) I'.ok.mod.kin T.kp (thn (ha.run pos pins s' σ H _ I' h2) fun us s2 ⟨vs, H2, I2, r, q2⟩ => ⟨I2.kIn, ?_⟩) he hpl
  exact run_fnSD F hr hb hd (passAt tk σ) I2 r q2
end
end DL

/-! DH1: what a top leaves: defs, own exceptions' inits, tables of code objects, and whatever can be looked up. -/
namespace DH
open PySem PySem.Spec PyProof.Rows L2 DX NdefX He
/-- an own exception's __init__: its class, its words -/
structure IniD where
  x : Str
  name : Str
  qual : Str
  params : Arguments
  body : List Stmt
  scope : Scope
  B : String
  newId : String
  initId : String
  tl : List Value
abbrev FnJ : Type := Option (Str × Str × Arguments × FuncBody × Scope × Addr × List Str × Addr)
def fnJ (K : PySem.W.Frag) (x : Str) : FnJ := match K.lookup (ma K (ga K x) "__init__") with
  | some ⟨_, _, .func fd, _⟩ => some (fd.name, fd.qualname, fd.params, fd.body, fd.scope, fd.globals, fd.closure.map (·.1), fd.builtins)
  | _ => none
def IniD.val (d : IniD) : FnJ := some (d.name, d.qual, d.params, .stmts d.body, d.scope, mainGlobals, ["__class__"], builtinsNs)
def oexB (K : PySem.W.Frag) (C : Addr) (tl : List Value) (newId : String) : Bool := match K.lookup C with
  | some ⟨.type "type", _, .cls cd, sl⟩ => (match cd.mro, sl.toList with
    | .ref C' :: bm, [_, _, _, _, some (.builtin n), _] => decide (C' = C) && (decide (n = newId) && ((!cd.hasDel) && (cd.hasDict && refsT tl bm)))
    | _, _ => false)
  | _ => false
theorem oexB_ok {K : PySem.W.Frag} {C : Addr} {tl : List Value} {newId : String} (h : oexB K C tl newId = true) :
    ∃ nm q N bs bm sn sub ab col dd k0 k1 k2 k3 k5, K.lookup C = some (excClassObj nm q C N bs bm true sn sub ab col dd k0 k1 k2 k3 k5 newId) ∧ refsT tl bm = true := by
  unfold oexB at h
  split at h
  · rename_i dd cd sl ho
    split at h
    · rename_i C' bm k0 k1 k2 k3 n k5 hm hs
      obtain ⟨h1, h⟩ := ba h
      obtain ⟨h2, h⟩ := ba h
      obtain ⟨h3, h⟩ := ba h
      obtain ⟨h4, h5⟩ := ba h
      have e1 : C' = C := of_decide_eq_true h1
      have e2 : n = newId := of_decide_eq_true h2
      subst e1 e2
      obtain ⟨c1, c2, c3, c4, c5, c6, c7, c8, c9, c10, c11⟩ := cd
      dsimp only at hm h3 h4
      subst hm h4
      have e3 : c11 = false := by cases c11 <;> first | rfl | cases h3
      subst e3
      have e4 : sl = #[k0, k1, k2, k3, some (.builtin n), k5] := by
        rw [← hs]
      subst e4
      exact ⟨c1, c5, c4, c2, bm, c7, c8, c9, c10, dd, k0, k1, k2, k3, k5, ho, h5⟩
    · cases h
  · cases h
def IniD.ok (P : Program) (K : PySem.W.Frag) (d : IniD) : Bool := oexB K (ga K d.x) d.tl d.newId && (eqO (PySem.W.findIn K (.ref (ga K d.x)) "__setattr__") (some (some (.builtin "object.__setattr__"))) &&
  (decide (PySem.W.subIn K (.ref (ga K d.x)) (.type "BaseException") = some true) && (decide (PySem.W.typeIn K (.ref (ga K d.x)) = some (.type "type")) && (PySem.W.keepIn K (.ref (ga K d.x)) &&
  (eqO (PySem.W.findIn K (.ref (ga K d.x)) "__init__") (some (some (.ref (ma K (ga K d.x) "__init__")))) && (decide (PySem.W.typeIn K (.ref (ma K (ga K d.x) "__init__")) = some (.type "function")) &&
  (decide (PySem.W.mroIn K (ga K d.x) (.ref (ga K d.x)) = some true) && (eqO (PySem.W.ks_superIn K (ga K d.x) (ga K d.x) "__init__") (some (some (.builtin d.initId))) && (decide (PySem.W.subIn K (.ref (ga K d.x)) (.type d.B) = some true) &&
  (eqO (PySem.W.nsIn K cStatics "thirdparty.any") (some none) && (match K.lookup (ma K (ga K d.x) "__init__") with
    | some ⟨_, _, .func fd, _⟩ => (match fd.closure, fd.code, fd.defaults with
      | [(_, cc)], .ref cda, .none => PySem.W.codeIn K (.ref cda) d.qual && ((match K.lookup cc with
        | some ⟨_, _, .cell (some (.ref D)), _⟩ => decide (D = ga K d.x)
        | _ => false) && (match K.lookup cda with
        | some ⟨_, _, .fields vs, _⟩ => (match (vs[2]? : Option Value) with
          | some (.str file _) => (P.main.file : Str) == file
          | _ => false)
        | _ => false))
      | _, _, _ => false)
    | _ => false)))))))))))
/-- what is known of an own exception class and its __init__ -/
structure IniF (P : Program) (K : PySem.W.Frag) (d : IniD) (cc cda : Addr) (fd : FuncData) : Prop where
  init : InitF P K (ga K d.x) d.B d.initId d.name d.qual d.params d.body d.scope (ma K (ga K d.x) "__init__") cc cda fd
  cls : OexT K d.tl d.newId (ga K d.x)
  at_ : PySem.W.findIn K (.ref (ga K d.x)) "__init__" = some (some (.ref (ma K (ga K d.x) "__init__")))
  fn : PySem.W.typeIn K (.ref (ma K (ga K d.x) "__init__")) = some (.type "function")
  plain : ∃ (kV doc pm : Value) (an : Option Addr) (ct : Value), fd = PySem.W.ksFn d.name d.qual d.params d.body d.scope .none kV doc pm an (.ref cda) ct cc
theorem iniF_ok {P : Program} {K : PySem.W.Frag} {d : IniD} (e : fnJ K d.x = d.val) (c : d.ok P K = true) : ∃ cc cda fd, IniF P K d cc cda fd := by
  unfold IniD.ok at c
  obtain ⟨c1, c⟩ := ba c
  obtain ⟨c2, c⟩ := ba c
  obtain ⟨c3, c⟩ := ba c
  obtain ⟨c4, c⟩ := ba c
  obtain ⟨c5, c⟩ := ba c
  obtain ⟨c6, c⟩ := ba c
  obtain ⟨c7, c⟩ := ba c
  obtain ⟨c8, c⟩ := ba c
  obtain ⟨c9, c⟩ := ba c
  obtain ⟨c10, c⟩ := ba c
  obtain ⟨c11, c⟩ := ba c
  unfold fnJ at e
  cases q : K.lookup (ma K (ga K d.x) "__init__") with
  | none => rw [q] at c; cases c
  | some o =>
    obtain ⟨oc, od, dt, osl⟩ := o
    rw [q] at c e
    cases dt with
    | func fd =>
      obtain ⟨n1, n2, n3, n4, n5, n6, n7, n8, n9, n10, n11, n12, n13, n14, n15⟩ := fd
      have e2 : (some (n1, n2, n3, n4, n5, n6, n7.map (·.1), n15) : FnJ) = d.val := e
      unfold IniD.val at e2
      simp only [Option.some.injEq, Prod.mk.injEq] at e2
      obtain ⟨h1, h2, h3, h4, h5, h6, h7, h8⟩ := e2
      subst h1 h2 h3 h4 h5 h6 h8
      dsimp only at c
      split at c
      · rename_i nm cc cda
        obtain ⟨k1, k2⟩ := ba c
        obtain ⟨k2, k3⟩ := ba k2
        have hn : nm = ("__class__" : Str) := by simpa using h7
        subst hn
        have hcell : ∃ (cl : Value) (cld : Option Addr) (csl : Array (Option Value)), K.lookup cc = some ⟨cl, cld, .cell (some (.ref (ga K d.x))), csl⟩ := by
          split at k2
          · rename_i cl cld D csl hl
            have e : D = ga K d.x := of_decide_eq_true k2
            subst e
            exact ⟨cl, cld, csl, hl⟩
          · cases k2
        have hfile : ∃ (ccl : Value) (cdd : Option Addr) (vs : Array Value) (ccs : Array (Option Value)) (file : Str) (tf : Tok), K.lookup cda = some ⟨ccl, cdd, .fields vs, ccs⟩ ∧ vs[2]? = some (.str file tf) ∧ ((P.main.file : Str) == file) = true := by
          split at k3
          · rename_i ccl cdd vs ccs hl
            split at k3
            · rename_i file tf hv
              exact ⟨ccl, cdd, vs, ccs, file, tf, hl, hv, k3⟩
            · cases k3
          · cases k3
        exact ⟨cc, cda, _, ⟨⟨oc, od, .none, n9, n10, n11, n12, n14, osl, rfl, q⟩, k1, hfile, hcell, of_decide_eq_true c8, eqO_ok c9, of_decide_eq_true c10, eqO_ok c11⟩, ⟨oexB_ok c1, eqO_ok c2, of_decide_eq_true c3, of_decide_eq_true c4, c5⟩, eqO_ok c6, of_decide_eq_true c7, ⟨n9, n10, n11, n12, n14, rfl⟩⟩
      · cases c
    | _ => cases c
/-- a call of the class binds its arguments in order -/
theorem IniF.binds {P : Program} {K : PySem.W.Frag} {d : IniD} {cc cda : Addr} {fd : FuncData} {ps : List Str} (F : IniF P K d cc cda fd)
    (h : ∀ (kV doc pm : Value) (an : Option Addr) (cdv ct : Value) (cc : Addr) (us : List Value), us.length = ps.length → bindArgs (PySem.W.ksFn d.name d.qual d.params d.body d.scope .none kV doc pm an cdv ct cc) ⟨us, []⟩ = pure (ps.zip us)) : L2.Binds K fd ps [] := by
  obtain ⟨kV, doc, pm, an, ct, rfl⟩ := F.plain
  intro s us _ hl
  rw [List.append_nil] at hl ⊢
  exact .of_eq (h kV doc pm an _ ct cc us hl)
/-! ### the Hook -/
abbrev AlY : Type := Bool × List FnW × List FnJ
def obsY (n : Nat) (P : Program) (chk : PySem.W.Frag → Bool) (fn : List DefD) (fi : List IniD) (tf : List Defn) (g : Addr → Option Obj) : AlY :=
  let K := frT g (cStatics :: asD g n)
  (chk K && ((fn.all fun d => d.ok K) && ((fi.all fun d => d.ok P K) && tabsB g tf K)), fn.map fun d => fnW K d.at_, fi.map fun d => fnJ K d.x)
def valY (fn : List DefD) (fi : List IniD) : AlY := (true, fn.map DefD.val, fi.map IniD.val)
structure SaysY (P : Program) (chk : PySem.W.Frag → Bool) (fn : List DefD) (fi : List IniD) (tf : List Defn) (h : Heap) (K : PySem.W.Frag) : Prop where
  chk_ : chk K = true
  okn : ∀ d ∈ fn, d.ok K = true
  oki : ∀ d ∈ fi, d.ok P K = true
  vn : fn.map (fun d => fnW K d.at_) = fn.map DefD.val
  vi : fi.map (fun d => fnJ K d.x) = fi.map IniD.val
  hd : ∀ p ∈ tf, PySem.W.codeHdIn K (cT K p).1 (cT K p).2 = true
  out : ∀ p ∈ tf, K.lookup (cT K p).2 = none
  empty : ∀ p ∈ tf, h.get? (cT K p).2 = some { cls := .none, data := .fields #[] }
theorem saysY_of {n : Nat} {P : Program} {chk : PySem.W.Frag → Bool} {fn : List DefD} {fi : List IniD} {tf : List Defn} {h : Heap} (e : obsY n P chk fn fi tf h.get? = valY fn fi) : SaysY P chk fn fi tf h (frT h.get? (cStatics :: asD h.get? n)) := by
  have e1 : (chk (frT h.get? (cStatics :: asD h.get? n)) && ((fn.all fun d => d.ok (frT h.get? (cStatics :: asD h.get? n))) && ((fi.all fun d => d.ok P (frT h.get? (cStatics :: asD h.get? n))) && tabsB h.get? tf (frT h.get? (cStatics :: asD h.get? n))))) = true := congrArg (fun z : AlY => z.1) e
  obtain ⟨h1, h2⟩ := ba e1
  obtain ⟨h2, h3⟩ := ba h2
  obtain ⟨h3, h4⟩ := ba h3
  have key : ∀ p ∈ tf, PySem.W.codeHdIn (frT h.get? (cStatics :: asD h.get? n)) (cT (frT h.get? (cStatics :: asD h.get? n)) p).1 (cT (frT h.get? (cStatics :: asD h.get? n)) p).2 = true ∧ ∃ o, h.get? (cT (frT h.get? (cStatics :: asD h.get? n)) p).2 = some o ∧ emptyTab o = true := fun p hp => by
    obtain ⟨k3, k4⟩ := ba (List.all_eq_true.mp h4 p hp)
    refine ⟨k3, ?_⟩
    split at k4
    · rename_i o q
      exact ⟨o, q, k4⟩
    · cases k4
  refine ⟨h1, List.all_eq_true.mp h2, List.all_eq_true.mp h3, congrArg (fun z : AlY => z.2.1) e, congrArg (fun z : AlY => z.2.2) e, fun p hp => (key p hp).1, fun p hp => ?_, fun p hp => ?_⟩
  · obtain ⟨_, o, q, z⟩ := key p hp
    exact frT_none q z
  · obtain ⟨_, o, q, z⟩ := key p hp
    rw [q, emptyTab_eq z]
def hookY (n : Nat) (P : Program) (chk : PySem.W.Frag → Bool) (fn : List DefD) (fi : List IniD) (tf : List Defn) : PySem.W.Hook where
  α := AlY
  obs := fun s => obsY n P chk fn fi tf s.heap.get?
  val := fun _ => valY fn fi
  says := fun _ h => ∃ K : PySem.W.Frag, K.In h ∧ SaysY P chk fn fi tf h K
  of := fun _ _ e => ⟨_, frT_in, saysY_of e⟩
  keeps := fun _ _ _ ⟨K, hK, c⟩ k => ⟨K, PySem.W.Frag.In.keeps hK k, ⟨c.chk_, c.okn, c.oki, c.vn, c.vi, c.hd, c.out, fun p hp => k _ _ (c.empty p hp)⟩⟩
theorem obsY_eq {n : Nat} {P : Program} {chk : PySem.W.Frag → Bool} {fn : List DefD} {fi : List IniD} {tf : List Defn} {g : Addr → Option Obj} {s : Shared} (h : ∀ a, g a = s.heap.get? a) : obsY n P chk fn fi tf g = (hookY n P chk fn fi tf).obs s := by
  have e : g = s.heap.get? := funext h
  rw [e]; rfl
section
variable {P : Program} {chk : PySem.W.Frag → Bool} {fn : List DefD} {fi : List IniD} {tf : List Defn} {h : Heap} {K : PySem.W.Frag}
theorem SaysY.def_ (c : SaysY P chk fn fi tf h K) (i : Nat) {d : DefD} (e : fn[i]? = some d := by rfl) : ∃ fd, FunD K d.name d.qual d.params d.body d.scope (d.dvs K) (d.kws K) (He.fAd K d.at_) fd := by
  have e2 : (fn.map fun d => fnW K d.at_)[i]? = (fn.map DefD.val)[i]? := by rw [c.vn]
  rw [List.getElem?_map, List.getElem?_map, e] at e2
  exact DefD.funD (Option.some.inj e2) (c.okn d (List.mem_of_getElem? e))
theorem SaysY.ini (c : SaysY P chk fn fi tf h K) (i : Nat) {d : IniD} (e : fi[i]? = some d := by rfl) : ∃ cc cda fd, IniF P K d cc cda fd := by
  have e2 : (fi.map fun d => fnJ K d.x)[i]? = (fi.map IniD.val)[i]? := by rw [c.vi]
  rw [List.getElem?_map, List.getElem?_map, e] at e2
  exact iniF_ok (Option.some.inj e2) (c.oki d (List.mem_of_getElem? e))
theorem SaysY.codeHd (c : SaysY P chk fn fi tf h K) (X : K.In h) : ∀ p ∈ tf.map (cT K), PySem.W.CodeHd h p.1 p.2 := fun p hp => by
  obtain ⟨q, hq, rfl⟩ := List.mem_map.mp hp
  exact PySem.W.codeHd_of_K X (c.hd q hq)
end
end DH

/-! DH2: small words for printed proofs. -/
namespace DH
open PySem PySem.Spec PyProof.Rows L2 DX NdefX He
def clsDefB (K : PySem.W.Frag) (x n : Str) : Bool := PySem.W.readsIn K (ga K x) (.type "type") && (decide (PySem.W.specialIn K (.ref (ga K x)) "__getattribute__" = some (some (.builtin "type.__getattribute__"))) &&
  ((match PySem.W.findCls K (.ref (ga K x)) (.type "type") n with
    | some (.val (.ref a)) => decide (a = ma K (ga K x) n)
    | _ => false) && PySem.W.keepIn K (.ref (ma K (ga K x) n))))
theorem clsDef_ok {K : PySem.W.Frag} {x n : Str} (h : clsDefB K x n = true) : DL.ClsDef K (ga K x) n (ma K (ga K x) n) := by
  obtain ⟨h1, h⟩ := ba h
  obtain ⟨h2, h⟩ := ba h
  obtain ⟨h3, h4⟩ := ba h
  refine ⟨⟨h1, of_decide_eq_true h2⟩, ?_, h4⟩
  split at h3
  · rename_i a e
    rw [of_decide_eq_true h3] at e
    exact e
  · cases h3
end DH
namespace DL
open PySem PySem.Spec PyProof.Rows L2 LamX
theorem hu100W {A : Around} {k : Nat} (hr : L2H.RoomH k A) : A.units + 100 < cLine := by have := hr.un; omega
theorem hu200W {A : Around} {k : Nat} (hr : L2H.RoomH k A) : A.units + 200 < cLine := by have := hr.un; omega
theorem roomH_of' {A : Around} {j k : Nat} {v : Option Value} (hr : Room k A) (h : j ≤ k) : L2H.RoomH j (A.mark v) := ⟨(hr.mono h).dp, (hr.mono h).un⟩
theorem pe_msg0 {X : Cx} {g : G} {c : Str} {j : Nat} {p : Pos} : PE X (.Constant (.str c) j p) (tMsgs g []) := pe_str.weak fun σ H Q ⟨S, M, s, hi, q⟩ => q c
section
variable {P : Program} {w : World} {K : PySem.W.Frag} {mg : Str → Option Value} {base : Heap} {g : G} {x qual : Str} {params : Arguments} {body : List Stmt} {scope : Scope} {dvs : List V} {kws : List (Str × V)} {f : Addr} {fd : FuncData} {N ps : List Str} {k n kk : Nat} {m : Fn}
theorem funW_ok (fb : Sv) (F : FunD K x qual params body scope dvs kws f fd) (S : FnScope N ps scope) (hn : ps.length = n) (hk : N.length = kk) (hm : m = runB kk fb)
    (hbody : ∀ (cdv : Value) (A : Around) (outer : List PySem.Env) (s : Shared) (H : Hp) (E : XK), L2H.RoomH k (A.deeper (envOfC qual scope s.heap.objs.size f cdv)) → PSs (cxW P w K mg base N qual scope f cdv A outer s H E) body (tS g (fun cls d _ H => E cls d H) fb)) : FnW P w K mg base (k + 1) f fd ps (spF g n m) := by
  subst hn hk hm
  exact FunW_ok F S hbody
/-- the rule for a def whose code object is asked for -/
theorem fun_okC {p : He.Defn} (fb : Sv) (F : FunD K x qual params body scope dvs kws f fd) (ha : f = He.fAd K p) (S : FnScope N ps scope) (hn : ps.length = n) (hk : N.length = kk) (hm : m = runB kk fb)
    (hbody : ∀ (cdv : Value), cdv = .ref (He.cT K p).1 → ∀ (A : Around) (outer : List PySem.Env) (s : Shared) (H : Hp) (E : XK), Room k (A.deeper (envOfC qual scope s.heap.objs.size f cdv)) →
      PSs (cxOf (L2.CX P w) P w K mg base N qual scope f cdv A outer s H E) body (tS g (fun cls d _ H => E cls d H) fb)) : FnOk P w K mg base (L2.CX P w) (k + 1) f fd ps (spF g n m) := by
  subst hn hk hm
  obtain ⟨oc, od, dV, kV, doc, pm, an, cdv, ct, osl, rfl, lk, hcd, hD, hK⟩ := F.ex
  obtain ⟨c, hc⟩ := He.codeIn_ref hcd
  have e : cdv = .ref (He.cT K p).1 := by
    subst ha
    rw [hc]
    exact congrArg Value.ref (He.codeOf_eq lk (show cdv = .ref c from hc)).symm
  refine ⟨fun vs H Q E ⟨ds, S, M, hl, _, r, _⟩ => by rw [r.len, hl], fun A outer s H args us vs Q E hr e0 hb r hsp => ?_⟩
  have hl : vs.length = ps.length := by obtain ⟨ds, S, M, hl, _, r, _⟩ := hsp; rw [r.len, hl]
  refine LamX.run_ofS lk hcd S hr e0 hb r hl fun hr' => ⟨_, hbody cdv e A outer s H E hr', ?_⟩
  obtain ⟨ds, S0, M, hl, sm, rr, q⟩ := hsp
  exact run_body sm rr (fun _ _ _ _ z => z) q
end
end DL

namespace KG
open PySem PySem.Spec PyProof.Rows L2 DL DX NdefX
abbrev PP : Program := PySem.Challenge.pw_standworth_k07_askings_refused
def topS (i : Nat) : Stmt := PySem.Challenge.pw_standworth_k07_askings_refused.main.body.getD i (.Pass ⟨0, 0, 0, 0⟩)
def mS (i j : Nat) : Stmt := (C8.clsBody (topS i)).getD j (.Pass ⟨0, 0, 0, 0⟩)
def c_LAST_HOUR : D := .int 8
def c_LETTERS : D := .str "abcdefghijklmnopqrstuvwxyz"
def cns : List Str := ["StandError", "InvalidName", "InvalidNumber", "InvalidStanding", "Missing", "Asking", "Work", "Hire"]
def xcs : List Nat := [1, 2, 3]
def ics : List Nat := [5, 6, 7]
def kg_Work_init_0 {A : Type} : List A → List A → List A
  | [p0, p1, p2, p3, p4, p5, p6], [k0] => [p0, p1, p2, p3, p4, p5, p6, k0]
  | _, _ => []
def kd_Work_init_0 : List D → List D → List D := kg_Work_init_0
def kg_Work_init_1 {A : Type} : List A → List A → List A
  | [p0], [k0, k1, k2, k3, k4, k5, k6] => [p0, k6, k5, k4, k3, k2, k1, k0]
  | _, _ => []
def kd_Work_init_1 : List D → List D → List D := kg_Work_init_1
def kg_Hire_init_2 {A : Type} : List A → List A → List A
  | [p0, p1, p2, p3, p4, p5], [k0] => [p0, p1, p2, p3, p4, p5, k0]
  | _, _ => []
def kd_Hire_init_2 : List D → List D → List D := kg_Hire_init_2
def kg_Hire_init_3 {A : Type} : List A → List A → List A
  | [p0], [k0, k1, k2, k3, k4, k5] => [p0, k5, k4, k3, k2, k1, k0]
  | _, _ => []
def kd_Hire_init_3 : List D → List D → List D := kg_Hire_init_3
def kg_law_names_4 {A : Type} : List A → List A → List A → List A
  | [p0, p1], [d0], [] => [p0, p1, d0]
  | _, _, _ => []
def kd_law_names_4 (us ws : List D) : List D := kg_law_names_4 us [.int 6] ws
abbrev s_is_name : Stmt := topS 10
abbrev N_is_name : List Str := ["value", "letter"]
theorem sc_is_name : FnScope N_is_name ["value"] (defScope s_is_name) := C8.fnScope_by (by decide +kernel)
def fb_is_name : Sv := (sSeq (sIf (tOr' (tNo (tV (eIsi .str (eVar 0)))) (tNo (tV (eChain opLe opLe (eC (.int 1)) (eCB fLen (aCons (eVar 0) aNil)) (eC (.int 6)))))) (sRet (eC (.bl false))) sNil)
  (sRet (eCB fAll (aCons (eLc (iOf asAny (eVar 0)) (gvName 1) tYesV (eOp opIn (eVar 1) (eC c_LETTERS)) [1]) aNil))))
def m_is_name : Fn := runB 2 fb_is_name
abbrev s_is_whole : Stmt := topS 11
abbrev N_is_whole : List Str := ["value"]
theorem sc_is_whole : FnScope N_is_whole ["value"] (defScope s_is_whole) := C8.fnScope_by (by decide +kernel)
def fb_is_whole : Sv := (sRet (eAnd (eIsi .int (eVar 0)) (eNot (eIsi .bool (eVar 0)))))
def m_is_whole : Fn := runB 1 fb_is_whole
abbrev s_is_number : Stmt := topS 12
abbrev N_is_number : List Str := ["value", "least", "most"]
theorem sc_is_number : FnScope N_is_number ["value", "least", "most"] (defScope s_is_number) := C8.fnScope_by (by decide +kernel)
def fb_is_number : Sv := (sRet (eAnd (eCall 1 m_is_whole [] (aCons (eVar 0) aNil)) (eChain opLe opLe (eVar 1) (eVar 0) (eVar 2))))
def m_is_number : Fn := runB 3 fb_is_number
abbrev s_is_standing : Stmt := topS 13
abbrev N_is_standing : List Str := ["value"]
theorem sc_is_standing : FnScope N_is_standing ["value"] (defScope s_is_standing) := C8.fnScope_by (by decide +kernel)
def fb_is_standing : Sv := (sSeq (sIf (tOr' (tNo (tV (eIsi .tuple (eVar 0)))) (tV (eOp opNe (eCB fLen (aCons (eVar 0) aNil)) (eC (.int 2))))) (sRet (eC (.bl false))) sNil)
  (sRet (eAnd (eCall 1 m_is_name [] (aCons (eOp opIx (eVar 0) (eC (.int 0))) aNil)) (eCall 3 m_is_number [] (aCons (eOp opIx (eVar 0) (eC (.int 1))) (aCons (eC (.int 0)) (aCons (eC c_LAST_HOUR) aNil)))))))
def m_is_standing : Fn := runB 1 fb_is_standing
abbrev s_check_names : Stmt := topS 15
abbrev N_check_names : List Str := ["name", "owner", "value"]
theorem sc_check_names : FnScope N_check_names ["name", "owner"] (defScope s_check_names) := C8.fnScope_by (by decide +kernel)
def fb_check_names : Sv := (sFor (iOf asAny (eTup (aCons (eVar 0) (aCons (eVar 1) aNil)))) (gvName 2) (sIf (tNo (tV (eCall 1 m_is_name [] (aCons (eVar 2) aNil)))) (sRaise 1 "InvalidName" ["value"] [0] (aCons (eVar 2) aNil)) sNil))
def m_check_names : Fn := runB 3 fb_check_names
abbrev s_check_terms : Stmt := topS 16
abbrev N_check_terms : List Str := ["crews", "price"]
theorem sc_check_terms : FnScope N_check_terms ["crews", "price"] (defScope s_check_terms) := C8.fnScope_by (by decide +kernel)
def fb_check_terms : Sv := (sSeq (sIf (tNo (tV (eCall 3 m_is_number [] (aCons (eVar 0) (aCons (eC (.int 1)) (aCons (eC (.int 99)) aNil)))))) (sRaise 2 "InvalidNumber" ["value"] [0] (aCons (eVar 0) aNil)) sNil)
  (sIf (tNo (tV (eCall 3 m_is_number [] (aCons (eVar 1) (aCons (eC (.int 0)) (aCons (eC (.int 999)) aNil)))))) (sRaise 2 "InvalidNumber" ["value"] [0] (aCons (eVar 1) aNil)) sNil))
def m_check_terms : Fn := runB 2 fb_check_terms
abbrev s_check_rank : Stmt := topS 17
abbrev N_check_rank : List Str := ["rank"]
theorem sc_check_rank : FnScope N_check_rank ["rank"] (defScope s_check_rank) := C8.fnScope_by (by decide +kernel)
def fb_check_rank : Sv := (sIf (tNo (tV (eCall 3 m_is_number [] (aCons (eVar 0) (aCons (eC (.int 0)) (aCons (eC (.int 99)) aNil)))))) (sRaise 2 "InvalidNumber" ["value"] [0] (aCons (eVar 0) aNil)) sNil)
def m_check_rank : Fn := runB 1 fb_check_rank
abbrev s_Asking_init : Stmt := mS 18 0
abbrev N_Asking_init : List Str := ["self", "name", "owner", "crews", "price", "rank"]
theorem sc_Asking_init : FnScope N_Asking_init ["self", "name", "owner", "crews", "price", "rank"] (defScope s_Asking_init) := C8.fnScope_by (by decide +kernel)
def fb_Asking_init : Sv := (sSeq (sAttr ics "name" (eVar 0) (eVar 1))
  (sSeq (sAttr ics "owner" (eVar 0) (eVar 2))
  (sSeq (sAttr ics "crews" (eVar 0) (eVar 3))
  (sSeq (sAttr ics "price" (eVar 0) (eVar 4))
  (sAttr ics "rank" (eVar 0) (eVar 5))))))
def m_Asking_init : Fn := runB 6 fb_Asking_init
abbrev s_Work_init : Stmt := mS 19 0
abbrev N_Work_init : List Str := ["self", "name", "owner", "start", "end", "crews", "price", "rank"]
theorem sc_Work_init : FnScope N_Work_init ["self", "name", "owner", "start", "end", "crews", "price", "rank"] (defScope s_Work_init) := C8.fnScope_by (by decide +kernel)
def fb_Work_init : Sv := (sSeq (sExpr (eCall 2 m_check_names [] (aCons (eVar 1) (aCons (eVar 2) aNil))))
  (sSeq (sIf (tNo (tV (eCall 1 m_is_standing [] (aCons (eVar 3) aNil)))) (sRaise 3 "InvalidStanding" ["value"] [0] (aCons (eVar 3) aNil)) sNil)
  (sSeq (sIf (tOr' (tNo (tV (eCall 1 m_is_standing [] (aCons (eVar 4) aNil)))) (tV (eOp opLe (eOp opIx (eVar 4) (eC (.int 1))) (eOp opIx (eVar 3) (eC (.int 1)))))) (sRaise 3 "InvalidStanding" ["value"] [0] (aCons (eVar 4) aNil)) sNil)
  (sSeq (sExpr (eCall 2 m_check_terms [] (aCons (eVar 5) (aCons (eVar 6) aNil))))
  (sSeq (sExpr (eCall 1 m_check_rank [] (aCons (eVar 7) aNil)))
  (sSeq (sExpr (eCall 6 m_Asking_init [] (aCons (eVar 0) (aCons (eVar 1) (aCons (eVar 2) (aCons (eVar 5) (aCons (eVar 6) (aCons (eVar 7) aNil))))))))
  (sSeq (sAttr ics "start" (eVar 0) (eVar 3))
  (sSeq (sAttr ics "end" (eVar 0) (eVar 4))
  (sSeq (sAttr ics "key" (eVar 0) (eTup (aCons (eC (.str "work")) (aCons (eVar 1) aNil))))
  (sSeq (sAttr ics "fee" (eVar 0) (eNeg (eVar 6)))
  (sAttr ics "begins" (eVar 0) (eOp opIx (eVar 3) (eC (.int 1))))))))))))))
def m_Work_init : Fn := runB 8 fb_Work_init
abbrev s_Hire_init : Stmt := mS 20 0
abbrev N_Hire_init : List Str := ["self", "name", "owner", "end", "crews", "price", "rank"]
theorem sc_Hire_init : FnScope N_Hire_init ["self", "name", "owner", "end", "crews", "price", "rank"] (defScope s_Hire_init) := C8.fnScope_by (by decide +kernel)
def fb_Hire_init : Sv := (sSeq (sExpr (eCall 2 m_check_names [] (aCons (eVar 1) (aCons (eVar 2) aNil))))
  (sSeq (sIf (tNo (tV (eCall 1 m_is_standing [] (aCons (eVar 3) aNil)))) (sRaise 3 "InvalidStanding" ["value"] [0] (aCons (eVar 3) aNil)) sNil)
  (sSeq (sExpr (eCall 2 m_check_terms [] (aCons (eVar 4) (aCons (eVar 5) aNil))))
  (sSeq (sExpr (eCall 1 m_check_rank [] (aCons (eVar 6) aNil)))
  (sSeq (sExpr (eCall 6 m_Asking_init [] (aCons (eVar 0) (aCons (eVar 1) (aCons (eVar 2) (aCons (eVar 4) (aCons (eVar 5) (aCons (eVar 6) aNil))))))))
  (sSeq (sAttr ics "start" (eVar 0) (eTup aNil))
  (sSeq (sAttr ics "end" (eVar 0) (eVar 3))
  (sSeq (sAttr ics "key" (eVar 0) (eTup (aCons (eC (.str "hire")) (aCons (eVar 1) aNil))))
  (sSeq (sAttr ics "fee" (eVar 0) (eVar 5))
  (sAttr ics "begins" (eVar 0) (eOp opIx (eVar 3) (eC (.int 1)))))))))))))
def m_Hire_init : Fn := runB 7 fb_Hire_init
abbrev s_law_bag : Stmt := topS 22
abbrev N_law_bag : List Str := ["_law_script", "_law_cells"]
theorem sc_law_bag : FnScope N_law_bag ["_law_script"] (defScope s_law_bag) := C8.fnScope_by (by decide +kernel)
def fb_law_bag : Sv := (sSeq (sSet 1 (eCB fList (aCons (eSl (eVar 0) pNo (pSo (eC (.int 63)))) aNil)))
  (sRet (eLstM (aCons (eVar 1) (aCons (eC (.int 0)) (aCons (eC (.int 0)) (aCons (eOp opAdd (eC (.int 12029)) (eOp opMul (eC (.int 31)) (eCB fLen (aCons (eVar 1) aNil)))) aNil)))))))
def m_law_bag : Fn := runB 2 fb_law_bag
abbrev s_law_take : Stmt := topS 23
abbrev N_law_take : List Str := ["_law_bag_here", "_law_size", "_law_cell", "_law_digit"]
theorem sc_law_take : FnScope N_law_take ["_law_bag_here", "_law_size"] (defScope s_law_take) := C8.fnScope_by (by decide +kernel)
def fb_law_take : Sv := (sSeq (sIf (tAn (tV (eOp opEq (eOp opIx (eVar 0) (eC (.int 2))) (eC (.int 0)))) (tV (eOp opLt (eOp opIx (eVar 0) (eC (.int 1))) (eCB fLen (aCons (eOp opIx (eVar 0) (eC (.int 0))) aNil))))) (sSeq (sSet 2 (eOp opIx (eOp opIx (eVar 0) (eC (.int 0))) (eOp opIx (eVar 0) (eC (.int 1)))))
  (sSeq (sAsg (eOp opAdd (eOp opIx (eVar 0) (eC (.int 1))) (eC (.int 1))) (gvSub (eVar 0) (eC (.int 1))))
  (sSeq (sAsg (eOp opMod (eCB fInt (aCons (eOp opAdd (eOp opAdd (eOp opMul (eOp opIx (eVar 0) (eC (.int 3))) (eC (.int 48271))) (eOp opMul (eOp opMod (eCB fInt (aCons (eVar 2) aNil)) (eC (.int 1000003))) (eC (.int 6151)))) (eC (.int 7919))) aNil)) (eC (.int 2147483629))) (gvSub (eVar 0) (eC (.int 3))))
  (sIf (tV (eOp opGe (eVar 2) (eOp opPow (eC (.int 10)) (eC (.int 18))))) (sAsg (eVar 2) (gvSub (eVar 0) (eC (.int 2)))) sNil)))) sNil)
  (sSeq (sIf (tV (eOp opGt (eOp opIx (eVar 0) (eC (.int 2))) (eC (.int 0)))) (sSeq (sSet 3 (eOp opMod (eCB fInt (aCons (eOp opIx (eVar 0) (eC (.int 2))) aNil)) (eVar 1)))
  (sSeq (sAsg (eOp opDiv (eOp opIx (eVar 0) (eC (.int 2))) (eVar 1)) (gvSub (eVar 0) (eC (.int 2))))
  (sRet (eVar 3)))) sNil)
  (sSeq (sAsg (eOp opMod (eCB fInt (aCons (eOp opAdd (eOp opAdd (eOp opMul (eOp opIx (eVar 0) (eC (.int 3))) (eOp opIx (eVar 0) (eC (.int 3)))) (eOp opMul (eOp opIx (eVar 0) (eC (.int 3))) (eC (.int 40692)))) (eC (.int 1231))) aNil)) (eC (.int 2147483629))) (gvSub (eVar 0) (eC (.int 3))))
  (sRet (eOp opMod (eCB fInt (aCons (eOp opAdd (eOp opDiv (eOp opIx (eVar 0) (eC (.int 3))) (eC (.int 97))) (eOp opMul (eOp opMod (eCB fInt (aCons (eOp opIx (eVar 0) (eC (.int 3))) aNil)) (eC (.int 7919))) (eC (.int 89)))) aNil)) (eVar 1))))))
def m_law_take : Fn := runB 4 fb_law_take
abbrev s_law_of : Stmt := topS 24
abbrev N_law_of : List Str := ["_law_bag_here", "_law_some"]
theorem sc_law_of : FnScope N_law_of ["_law_bag_here", "_law_some"] (defScope s_law_of) := C8.fnScope_by (by decide +kernel)
def fb_law_of : Sv := (sRet (eOp opIx (eVar 1) (eCall 2 m_law_take [] (aCons (eVar 0) (aCons (eCB fLen (aCons (eVar 1) aNil)) aNil)))))
def m_law_of : Fn := runB 2 fb_law_of
abbrev s_law_same : Stmt := topS 25
abbrev N_law_same : List Str := ["_law_found", "_law_due_here", "_law_k"]
theorem sc_law_same : FnScope N_law_same ["_law_found", "_law_due_here"] (defScope s_law_same) := C8.fnScope_by (by decide +kernel)
def fb_law_same (m : Fn) : Sv := (sSeq (sIf (tOr' (tV (eOp opIsN (eVar 1) (eC .non))) (tV (eOp opIsN (eVar 0) (eC .non)))) (sRet (eAnd (eOp opIsN (eVar 1) (eC .non)) (eOp opIsN (eVar 0) (eC .non)))) sNil)
  (sSeq (sIf (tV (eIsis [.list, .tuple] (eVar 1))) (sSeq (sIf (tOr' (tV (eOp opNe (eIsi .list (eVar 0)) (eIsi .list (eVar 1)))) (tV (eOp opNe (eIsi .tuple (eVar 0)) (eIsi .tuple (eVar 1))))) (sRet (eC (.bl false))) sNil)
  (sRet (eAnd (eOp opEq (eCB fLen (aCons (eVar 0) aNil)) (eCB fLen (aCons (eVar 1) aNil))) (eOp opEq (eLc (iR1 (eCB fLen (aCons (eVar 1) aNil))) (gvName 2) (tNo (tV (eCall 2 m [] (aCons (eOp opIx (eVar 0) (eVar 2)) (aCons (eOp opIx (eVar 1) (eVar 2)) aNil))))) (eVar 2) [2]) (eLst aNil))))) sNil)
  (sSeq (sIf (tV (eIsi .dict (eVar 1))) (sRet (eAnd (eIsi .dict (eVar 0)) (eCall 2 m [] (aCons (eCB fList (aCons eBad aNil)) (aCons (eCB fList (aCons eBad aNil)) aNil))))) sNil)
  (sSeq (sIf (tOr' (tV (eOp opNe (eIsi .bool (eVar 1)) (eIsi .bool (eVar 0)))) (tV (eOp opNe (eIsi .int (eVar 1)) (eIsi .int (eVar 0))))) (sRet (eC (.bl false))) sNil)
  (sRet (eAnd (eOp opEq (eIsi .str (eVar 1)) (eIsi .str (eVar 0))) (eOp opEq (eVar 0) (eVar 1))))))))
def m_law_same : Nat → Fn
  | 0 => fun _ _ => .bad
  | n + 1 => runB 3 (fb_law_same (m_law_same n))
abbrev s_law_names : Stmt := topS 26
abbrev N_law_names : List Str := ["_law_bag_here", "_law_count", "_law_cap", "_law_abc", "_law_stem", "_law_k", "_law_begin", "_law_step", "_law_found", "_law_tail", "_law_j"]
theorem sc_law_names : FnScope N_law_names ["_law_bag_here", "_law_count", "_law_cap"] (defScope s_law_names) := C8.fnScope_by (by decide +kernel)
def fb_law_names : Sv := (sSeq (sSet 3 (eC (.str "abcdefghijklmnopqrstuvwxyz")))
  (sSeq (sSet 4 (eM1 joinD (eC (.str "")) (eLc (iR1 (eCall 2 m_law_take [] (aCons (eVar 0) (aCons (eVar 2) aNil)))) (gvName 5) tYesV (eCall 2 m_law_of [] (aCons (eVar 0) (aCons (eVar 3) aNil))) [5])))
  (sSeq (sPar3 6 7 8 (aCons (eCall 2 m_law_take [] (aCons (eVar 0) (aCons (eC (.int 26)) aNil))) (aCons (eCall 2 m_law_of [] (aCons (eVar 0) (aCons (eLst (aCons (eC (.int 1)) (aCons (eC (.int 3)) (aCons (eC (.int 5)) (aCons (eC (.int 7)) (aCons (eC (.int 11)) (aCons (eC (.int 25)) aNil))))))) aNil))) (aCons (eLstM aNil) aNil))))
  (sSeq (sFor (iR1 (eVar 1)) (gvName 5) (sSeq (sSet 9 (eM1 joinD (eC (.str "")) (eLc (iR1 (eCall 2 m_law_take [] (aCons (eVar 0) (aCons (eOp opSub (eVar 2) (eCB fLen (aCons (eVar 4) aNil))) aNil)))) (gvName 10) tYesV (eCall 2 m_law_of [] (aCons (eVar 0) (aCons (eVar 3) aNil))) [10])))
  (sExpr (eAppend (eVar 8) (eOp opAdd (eOp opAdd (eVar 4) (eOp opIx (eVar 3) (eOp opMod (eCB fInt (aCons (eOp opAdd (eVar 6) (eOp opMul (eVar 7) (eVar 5))) aNil)) (eC (.int 26))))) (eVar 9))))))
  (sRet (eFrz (eVar 8)))))))
def m_law_names : Fn := runB 11 fb_law_names
abbrev s_law_parts : Stmt := topS 27
abbrev N_law_parts : List Str := ["_law_e"]
theorem sc_law_parts : FnScope N_law_parts ["_law_e"] (defScope s_law_parts) := C8.fnScope_by (by decide +kernel)
def fb_law_parts : Sv := (sSeq (sIf (tV (eOp opIn (eXattr xcs "code" (eVar 0)) (eTup (aCons (eC (.str "InvalidName")) (aCons (eC (.str "InvalidNumber")) (aCons (eC (.str "InvalidStanding")) aNil)))))) (sRet (eTup (aCons (eXattr xcs "value" (eVar 0)) aNil))) sNil)
  (sSeq (sIf (tV (eOp opIn (eXattr xcs "code" (eVar 0)) (eTup (aCons (eC (.str "InvalidYard")) (aCons (eC (.str "InvalidRoad")) (aCons (eC (.str "InvalidAsking")) (aCons (eC (.str "InvalidGiven")) (aCons (eC (.str "Over")) aNil)))))))) (sRet (eTup (aCons (eXattr xcs "at" (eVar 0)) aNil))) sNil)
  (sSeq (sIf (tV (eOp opIn (eXattr xcs "code" (eVar 0)) (eTup (aCons (eC (.str "DuplicateName")) (aCons (eC (.str "AboveTop")) (aCons (eC (.str "UnknownName")) aNil)))))) (sRet (eTup (aCons (eXattr xcs "name" (eVar 0)) aNil))) sNil)
  (sSeq (sIf (tV (eOp opEq (eXattr xcs "code" (eVar 0)) (eC (.str "UnknownStanding")))) (sRet (eTup (aCons (eXattr xcs "standing" (eVar 0)) aNil))) sNil)
  (sSeq (sIf (tV (eOp opEq (eXattr xcs "code" (eVar 0)) (eC (.str "InvalidText")))) (sRet (eTup (aCons (eXattr xcs "line" (eVar 0)) (aCons (eXattr xcs "why" (eVar 0)) aNil)))) sNil)
  (sRet (eIf (tV (eOp opEq (eXattr xcs "code" (eVar 0)) (eC (.str "TooMany")))) (eTup (aCons (eXattr xcs "most" (eVar 0)) aNil)) (eIf (tV (eOp opEq (eXattr xcs "code" (eVar 0)) (eC (.str "UnknownLine")))) (eTup (aCons (eXattr xcs "key" (eVar 0)) aNil)) (eTup aNil)))))))))
def m_law_parts : Fn := runB 1 fb_law_parts
abbrev s_law_try : Stmt := topS 28
abbrev N_law_try : List Str := ["_law_ask", "_law_e"]
theorem sc_law_try : FnScope N_law_try ["_law_ask"] (defScope s_law_try) := C8.fnScope_by (by decide +kernel)
def fs_law_try : Sv := (sRet (eOp opAdd (eTup (aCons (eXattr xcs "code" (eVar 1)) aNil)) (eCallW 1 m_law_parts (aCons (eVar 1) aNil))))
def m_law_try : (Sto → Ret D) → Sto → Ret D := mTry xcs fs_law_try
abbrev s_law_why : Stmt := topS 29
abbrev N_law_why : List Str := ["_law_ask", "_law_found"]
theorem sc_law_why : FnScope N_law_why ["_law_ask"] (defScope s_law_why) := C8.fnScope_by (by decide +kernel)
def fs_law_why : Sv := (sRet (eIf (tV (eOp opEq (eOp opIx (eVar 1) (eC (.int 0))) (eC (.str "")))) (eTup aNil) (eVar 1)))
def m_law_why : (Sto → Ret D) → Sto → Ret D := mWhy m_law_try fs_law_why
abbrev s_law_is_count : Stmt := topS 30
abbrev N_law_is_count : List Str := ["_law_thing", "_law_low", "_law_high"]
theorem sc_law_is_count : FnScope N_law_is_count ["_law_thing", "_law_low", "_law_high"] (defScope s_law_is_count) := C8.fnScope_by (by decide +kernel)
def fb_law_is_count : Sv := (sRet (eAnd (eIsi .int (eVar 0)) (eAnd (eNot (eIsi .bool (eVar 0))) (eAnd (eOp opLe (eVar 1) (eVar 0)) (eOp opLe (eVar 0) (eVar 2))))))
def m_law_is_count : Fn := runB 3 fb_law_is_count
abbrev s_law_is_call : Stmt := topS 31
abbrev N_law_is_call : List Str := ["_law_thing", "_law_sign"]
theorem sc_law_is_call : FnScope N_law_is_call ["_law_thing"] (defScope s_law_is_call) := C8.fnScope_by (by decide +kernel)
def fb_law_is_call : Sv := (sSeq (sIf (tOr' (tNo (tV (eIsi .str (eVar 0)))) (tNo (tV (eCall 3 m_law_is_count [] (aCons (eCB fLen (aCons (eVar 0) aNil)) (aCons (eC (.int 1)) (aCons (eC (.int 6)) aNil))))))) (sRet (eC (.bl false))) sNil)
  (sRet (eOp opEq (eLc (iOf asAny (eVar 0)) (gvName 1) (tV (eOp opNotIn (eVar 1) (eC (.str "abcdefghijklmnopqrstuvwxyz")))) (eVar 1) [1]) (eLst aNil))))
def m_law_is_call : Fn := runB 2 fb_law_is_call
abbrev s_law_is_spot : Stmt := topS 32
abbrev N_law_is_spot : List Str := ["_law_thing"]
theorem sc_law_is_spot : FnScope N_law_is_spot ["_law_thing"] (defScope s_law_is_spot) := C8.fnScope_by (by decide +kernel)
def fb_law_is_spot : Sv := (sRet (eAnd (eIsi .tuple (eVar 0)) (eAnd (eOp opEq (eCB fLen (aCons (eVar 0) aNil)) (eC (.int 2))) (eAnd (eCall 1 m_law_is_call [] (aCons (eOp opIx (eVar 0) (eC (.int 0))) aNil)) (eCall 3 m_law_is_count [] (aCons (eOp opIx (eVar 0) (eC (.int 1))) (aCons (eC (.int 0)) (aCons (eC (.int 8)) aNil))))))))
def m_law_is_spot : Fn := runB 1 fb_law_is_spot
abbrev s_law_due : Stmt := topS 33
abbrev N_law_due : List Str := ["_law_row", "_law_thing", "_law_word", "_law_call", "_law_boss", "_law_turn", "_law_here", "_law_there", "_law_heads", "_law_pay", "_law_low", "_law_high"]
theorem sc_law_due : FnScope N_law_due ["_law_row"] (defScope s_law_due) := C8.fnScope_by (by decide +kernel)
def fb_law_due : Sv := (sSeq (sAsg (eVar 0) (gvTup 8 (gvCons (gvName 2) (gvCons (gvName 3) (gvCons (gvName 4) (gvCons (gvName 5) (gvCons (gvName 6) (gvCons (gvName 7) (gvCons (gvName 8) (gvCons (gvName 9) gvNil))))))))))
  (sSeq (sFor (iOf asAny (eTup (aCons (eVar 3) (aCons (eVar 4) aNil)))) (gvName 1) (sIf (tNo (tV (eCall 1 m_law_is_call [] (aCons (eVar 1) aNil)))) (sRet (eTup (aCons (eC (.str "InvalidName")) (aCons (eVar 1) aNil)))) sNil))
  (sSeq (sIf (tAn (tV (eOp opEq (eVar 2) (eC (.str "work")))) (tNo (tV (eCall 1 m_law_is_spot [] (aCons (eVar 6) aNil))))) (sRet (eTup (aCons (eC (.str "InvalidStanding")) (aCons (eVar 6) aNil)))) sNil)
  (sSeq (sIf (tOr' (tNo (tV (eCall 1 m_law_is_spot [] (aCons (eVar 7) aNil)))) (tAn (tV (eOp opEq (eVar 2) (eC (.str "work")))) (tV (eOp opLe (eOp opIx (eVar 7) (eC (.int 1))) (eOp opIx (eVar 6) (eC (.int 1))))))) (sRet (eTup (aCons (eC (.str "InvalidStanding")) (aCons (eVar 7) aNil)))) sNil)
  (sSeq (sFor (iOf asAny (eTup (aCons (eTup (aCons (eVar 8) (aCons (eC (.int 1)) (aCons (eC (.int 99)) aNil)))) (aCons (eTup (aCons (eVar 9) (aCons (eC (.int 0)) (aCons (eC (.int 999)) aNil)))) (aCons (eTup (aCons (eVar 5) (aCons (eC (.int 0)) (aCons (eC (.int 99)) aNil)))) aNil))))) (gvTup 3 (gvCons (gvName 1) (gvCons (gvName 10) (gvCons (gvName 11) gvNil)))) (sIf (tNo (tV (eCall 3 m_law_is_count [] (aCons (eVar 1) (aCons (eVar 10) (aCons (eVar 11) aNil)))))) (sRet (eTup (aCons (eC (.str "InvalidNumber")) (aCons (eVar 1) aNil)))) sNil))
  (sRet (eTup aNil)))))))
def m_law_due : Fn := runB 12 fb_law_due
abbrev s_law_good : Stmt := topS 34
abbrev N_law_good : List Str := ["_law_bag_here", "_law_calls", "_law_hour", "_law_late", "_law_word", "_law_turn", "_law_here", "_law_there", "_law_heads", "_law_pay"]
theorem sc_law_good : FnScope N_law_good ["_law_bag_here", "_law_calls"] (defScope s_law_good) := C8.fnScope_by (by decide +kernel)
def fb_law_good : Sv := (sSeq (sSet 2 (eCall 2 m_law_of [] (aCons (eVar 0) (aCons (eLst (aCons (eC (.int 0)) (aCons (eC (.int 7)) (aCons (eC (.int 3)) aNil)))) aNil))))
  (sSeq (sSet 3 (eCall 2 m_law_of [] (aCons (eVar 0) (aCons (eLst (aCons (eOp opAdd (eVar 2) (eC (.int 1))) (aCons (eC (.int 8)) aNil))) aNil))))
  (sSeq (sPar2 4 5 (aCons (eCall 2 m_law_of [] (aCons (eVar 0) (aCons (eLst (aCons (eC (.str "work")) (aCons (eC (.str "work")) (aCons (eC (.str "hire")) aNil)))) aNil))) (aCons (eCall 2 m_law_of [] (aCons (eVar 0) (aCons (eLst (aCons (eC (.int 0)) (aCons (eC (.int 99)) (aCons (eC (.int 5)) aNil)))) aNil))) aNil)))
  (sSeq (sPar2 6 7 (aCons (eTup (aCons (eCall 2 m_law_of [] (aCons (eVar 0) (aCons (eVar 1) aNil))) (aCons (eVar 2) aNil))) (aCons (eTup (aCons (eCall 2 m_law_of [] (aCons (eVar 0) (aCons (eVar 1) aNil))) (aCons (eIf (tV (eOp opEq (eVar 4) (eC (.str "work")))) (eVar 3) (eCall 2 m_law_of [] (aCons (eVar 0) (aCons (eLst (aCons (eC (.int 0)) (aCons (eC (.int 8)) (aCons (eC (.int 4)) aNil)))) aNil)))) aNil))) aNil)))
  (sSeq (sPar2 8 9 (aCons (eCall 2 m_law_of [] (aCons (eVar 0) (aCons (eLst (aCons (eC (.int 1)) (aCons (eC (.int 99)) (aCons (eC (.int 3)) aNil)))) aNil))) (aCons (eCall 2 m_law_of [] (aCons (eVar 0) (aCons (eLst (aCons (eC (.int 0)) (aCons (eC (.int 999)) (aCons (eC (.int 6)) aNil)))) aNil))) aNil)))
  (sRet (eTup (aCons (eVar 4) (aCons (eCall 2 m_law_of [] (aCons (eVar 0) (aCons (eVar 1) aNil))) (aCons (eCall 2 m_law_of [] (aCons (eVar 0) (aCons (eVar 1) aNil))) (aCons (eVar 5) (aCons (eIf (tV (eOp opEq (eVar 4) (eC (.str "work")))) (eVar 6) (eTup aNil)) (aCons (eVar 7) (aCons (eVar 8) (aCons (eVar 9) aNil)))))))))))))))
def m_law_good : Fn := runB 10 fb_law_good
abbrev s_law_bad : Stmt := topS 35
abbrev N_law_bad : List Str := ["_law_bag_here", "_law_row", "_law_at", "_law_hour", "_law_some"]
theorem sc_law_bad : FnScope N_law_bad ["_law_bag_here", "_law_row", "_law_at"] (defScope s_law_bad) := C8.fnScope_by (by decide +kernel)
def fb_law_bad : Sv := (sSeq (sIf (tV (eOp opIn (eVar 2) (eTup (aCons (eC (.int 1)) (aCons (eC (.int 2)) aNil))))) (sRet (eCall 2 m_law_of [] (aCons (eVar 0) (aCons (eLst (aCons (eC (.str "")) (aCons (eC (.str "A")) (aCons (eC (.str "abcdefg")) (aCons (eC (.str "a1")) (aCons (eC (.str "a b")) (aCons (eC .non) (aCons (eC (.bl true)) (aCons (eC (.int 3)) (aCons (eTup (aCons (eC (.str "a")) aNil)) (aCons (eLst (aCons (eC (.str "a")) aNil)) (aCons (eC (.str "abcdef")) aNil)))))))))))) aNil)))) sNil)
  (sSeq (sIf (tV (eOp opIn (eVar 2) (eTup (aCons (eC (.int 4)) (aCons (eC (.int 5)) aNil))))) (sSeq (sSet 3 (eIf (tAn (tV (eIsi .tuple (eOp opIx (eVar 1) (eC (.int 4))))) (tAn (tV (eOp opEq (eCB fLen (aCons (eOp opIx (eVar 1) (eC (.int 4))) aNil)) (eC (.int 2)))) (tV (eCall 3 m_law_is_count [] (aCons (eOp opIx (eOp opIx (eVar 1) (eC (.int 4))) (eC (.int 1))) (aCons (eC (.int 0)) (aCons (eC (.int 8)) aNil))))))) (eOp opIx (eOp opIx (eVar 1) (eC (.int 4))) (eC (.int 1))) (eC (.int 2))))
  (sSeq (sSet 4 (eLst (aCons (eTup aNil) (aCons (eTup (aCons (eC (.str "a")) aNil)) (aCons (eTup (aCons (eC (.str "a")) (aCons (eC (.int 9)) aNil))) (aCons (eTup (aCons (eC (.str "a")) (aCons (eOp opSub (eC (.int 0)) (eC (.int 1))) aNil))) (aCons (eTup (aCons (eC (.str "a")) (aCons (eC (.bl true)) aNil))) (aCons (eTup (aCons (eC (.str "A")) (aCons (eC (.int 1)) aNil))) (aCons (eLst (aCons (eC (.str "a")) (aCons (eC (.int 1)) aNil))) (aCons (eC (.str "a 1")) (aCons (eC .non) (aCons (eTup (aCons (eC (.str "a")) (aCons (eC (.str "1")) aNil))) (aCons (eTup (aCons (eC (.str "a")) (aCons (eC (.int 1)) (aCons (eC (.int 1)) aNil)))) aNil)))))))))))))
  (sRet (eCall 2 m_law_of [] (aCons (eVar 0) (aCons (eOp opAdd (eVar 4) (eLst (aCons (eTup (aCons (eC (.str "a")) (aCons (eVar 3) aNil))) (aCons (eTup (aCons (eC (.str "b")) (aCons (eVar 3) aNil))) (aCons (eTup (aCons (eC (.str "b")) (aCons (eIf (tV (eOp opGt (eVar 3) (eC (.int 0)))) (eOp opSub (eVar 3) (eC (.int 1))) (eC (.int 0))) aNil))) (aCons (eTup (aCons (eC (.str "abcdef")) (aCons (eC (.int 8)) aNil))) aNil)))))) aNil)))))) sNil)
  (sRet (eCall 2 m_law_of [] (aCons (eVar 0) (aCons (eLst (aCons (eOp opSub (eC (.int 0)) (eC (.int 1))) (aCons (eC (.int 0)) (aCons (eC (.int 100)) (aCons (eC (.int 1000)) (aCons (eC (.int 99)) (aCons (eC (.int 999)) (aCons (eC (.bl true)) (aCons (eC (.bl false)) (aCons (eC .non) (aCons (eC (.str "1")) (aCons (eLst (aCons (eC (.int 1)) aNil)) (aCons (eTup (aCons (eC (.int 1)) aNil)) (aCons (eOp opPow (eC (.int 10)) (eC (.int 8))) aNil)))))))))))))) aNil))))))
def m_law_bad : Fn := runB 5 fb_law_bad
abbrev s_law_asked : Stmt := topS 36
abbrev N_law_asked : List Str := ["_law_bag_here", "_law_row", "_law_word", "_law_call", "_law_boss", "_law_turn", "_law_here", "_law_there", "_law_heads", "_law_pay"]
theorem sc_law_asked : FnScope N_law_asked ["_law_bag_here", "_law_row"] (defScope s_law_asked) := C8.fnScope_by (by decide +kernel)
def fb_law_asked : Sv := (sSeq (sAsg (eVar 1) (gvTup 8 (gvCons (gvName 2) (gvCons (gvName 3) (gvCons (gvName 4) (gvCons (gvName 5) (gvCons (gvName 6) (gvCons (gvName 7) (gvCons (gvName 8) (gvCons (gvName 9) gvNil))))))))))
  (sSeq (sIf (tV (eOp opEq (eVar 2) (eC (.str "work")))) (sSeq (sIf (tV (eOp opEq (eCall 2 m_law_take [] (aCons (eVar 0) (aCons (eC (.int 2)) aNil))) (eC (.int 0)))) (sRet (eLam m_law_why (eMake 6 1 8 6 m_Work_init kd_Work_init_0 (aCons (eVar 3) (aCons (eVar 4) (aCons (eVar 6) (aCons (eVar 7) (aCons (eVar 8) (aCons (eVar 9) aNil)))))) (aCons (eVar 5) aNil)))) sNil)
  (sRet (eLam m_law_why (eMake 0 7 8 6 m_Work_init kd_Work_init_1 aNil (aCons (eVar 5) (aCons (eVar 9) (aCons (eVar 8) (aCons (eVar 7) (aCons (eVar 6) (aCons (eVar 4) (aCons (eVar 3) aNil))))))))))) sNil)
  (sSeq (sIf (tV (eOp opEq (eCall 2 m_law_take [] (aCons (eVar 0) (aCons (eC (.int 2)) aNil))) (eC (.int 0)))) (sRet (eLam m_law_why (eMake 5 1 7 7 m_Hire_init kd_Hire_init_2 (aCons (eVar 3) (aCons (eVar 4) (aCons (eVar 7) (aCons (eVar 8) (aCons (eVar 9) aNil))))) (aCons (eVar 5) aNil)))) sNil)
  (sRet (eLam m_law_why (eMake 0 6 7 7 m_Hire_init kd_Hire_init_3 aNil (aCons (eVar 5) (aCons (eVar 9) (aCons (eVar 8) (aCons (eVar 7) (aCons (eVar 4) (aCons (eVar 3) aNil))))))))))))
def m_law_asked : Fn := runB 10 fb_law_asked
abbrev s_law : Stmt := topS 37
abbrev N_law : List Str := ["_law_script", "_law_bag_here", "_law_turn", "_law_row", "_law_more", "_law_at"]
theorem sc_law : FnScope N_law ["_law_script"] (defScope s_law) := C8.fnScope_by (by decide +kernel)
def fb_law : Sv := (sSeq (sSet 1 (eCall 1 m_law_bag [] (aCons (eVar 0) aNil)))
  (sSeq (sFor (iR1 (eC (.int 14))) (gvName 2) (sSeq (sSet 3 (eCall 2 m_law_good [] (aCons (eVar 1) (aCons (eCallD 2 0 3 m_law_names kd_law_names_4 (aCons (eVar 1) (aCons (eC (.int 3)) aNil)) aNil) aNil))))
  (sSeq (sIf (tNo (tV (eCall 2 (m_law_same 6) [] (aCons (eCall 2 m_law_asked [] (aCons (eVar 1) (aCons (eVar 3) aNil))) (aCons (eTup aNil) aNil))))) (sRet (eC (.bl false))) sNil)
  (sFor (iR1 (eOp opAdd (eC (.int 1)) (eCall 2 m_law_take [] (aCons (eVar 1) (aCons (eC (.int 4)) aNil))))) (gvName 4) (sSeq (sSet 5 (eCall 2 m_law_of [] (aCons (eVar 1) (aCons (eOp opAdd (eLst (aCons (eC (.int 1)) (aCons (eC (.int 2)) (aCons (eC (.int 3)) (aCons (eC (.int 5)) (aCons (eC (.int 5)) (aCons (eC (.int 6)) (aCons (eC (.int 7)) aNil)))))))) (eIf (tV (eOp opEq (eOp opIx (eVar 3) (eC (.int 0))) (eC (.str "work")))) (eLst (aCons (eC (.int 4)) (aCons (eC (.int 4)) aNil))) (eLst aNil))) aNil))))
  (sSeq (sSet 3 (eOp opAdd (eOp opAdd (eSl (eVar 3) pNo (pSo (eVar 5))) (eTup (aCons (eCall 3 m_law_bad [] (aCons (eVar 1) (aCons (eVar 3) (aCons (eVar 5) aNil)))) aNil))) (eSl (eVar 3) (pSo (eOp opAdd (eVar 5) (eC (.int 1)))) pNo)))
  (sIf (tNo (tV (eCall 2 (m_law_same 6) [] (aCons (eCall 2 m_law_asked [] (aCons (eVar 1) (aCons (eVar 3) aNil))) (aCons (eCall 1 m_law_due [] (aCons (eVar 3) aNil)) aNil))))) (sRet (eC (.bl false))) sNil)))))))
  (sRet (eC (.bl true)))))
def m_law : Fn := runB 6 fb_law
def tf : List He.Defn := [("_law_asked", none)]
def lq0 : Str := "_law_asked.<locals>.<lambda>"
def cC (K : PySem.W.Frag) (c : Nat) : Addr := He.ga K (cns.getD c "")
def gg (K : PySem.W.Frag) : G := ⟨K, cC K, [((He.cT K ("_law_asked", none)).2, lq0)]⟩
abbrev TBs (K : PySem.W.Frag) (mg : Str → Option Value) (base : Heap) : Prop := ∀ p ∈ tf.map (He.cT K), LamX.TabB base mg p.1 p.2
theorem hC_StandError {K : PySem.W.Frag} : (gg K).C 0 = He.ga K "StandError" := rfl
theorem hC_InvalidName {K : PySem.W.Frag} : (gg K).C 1 = He.ga K "InvalidName" := rfl
theorem hC_InvalidNumber {K : PySem.W.Frag} : (gg K).C 2 = He.ga K "InvalidNumber" := rfl
theorem hC_InvalidStanding {K : PySem.W.Frag} : (gg K).C 3 = He.ga K "InvalidStanding" := rfl
theorem hC_Missing {K : PySem.W.Frag} : (gg K).C 4 = He.ga K "Missing" := rfl
theorem hC_Asking {K : PySem.W.Frag} : (gg K).C 5 = He.ga K "Asking" := rfl
theorem hC_Work {K : PySem.W.Frag} : (gg K).C 6 = He.ga K "Work" := rfl
theorem hC_Hire {K : PySem.W.Frag} : (gg K).C 7 = He.ga K "Hire" := rfl
abbrev x_InvalidName : Stmt := mS 3 0
def xd_InvalidName : DH.IniD := { x := "InvalidName", name := "__init__", qual := "InvalidName.__init__", params := defArgs x_InvalidName, body := defBody x_InvalidName, scope := defScope x_InvalidName, B := "ValueError", newId := "ValueError.__new__", initId := "ValueError.__init__", tl := tlV }
abbrev x_InvalidNumber : Stmt := mS 4 0
def xd_InvalidNumber : DH.IniD := { x := "InvalidNumber", name := "__init__", qual := "InvalidNumber.__init__", params := defArgs x_InvalidNumber, body := defBody x_InvalidNumber, scope := defScope x_InvalidNumber, B := "ValueError", newId := "ValueError.__new__", initId := "ValueError.__init__", tl := tlV }
abbrev x_InvalidStanding : Stmt := mS 5 0
def xd_InvalidStanding : DH.IniD := { x := "InvalidStanding", name := "__init__", qual := "InvalidStanding.__init__", params := defArgs x_InvalidStanding, body := defBody x_InvalidStanding, scope := defScope x_InvalidStanding, B := "ValueError", newId := "ValueError.__new__", initId := "ValueError.__init__", tl := tlV }
structure TX (K : PySem.W.Frag) (mg : Str → Option Value) where
  f_is_name : Addr
  fd_is_name : FuncData
  F_is_name : FunD K "is_name" "is_name" (defArgs s_is_name) (defBody s_is_name) (defScope s_is_name) [] [] f_is_name fd_is_name
  g_is_name : mg "is_name" = some (.ref f_is_name)
  f_is_whole : Addr
  fd_is_whole : FuncData
  F_is_whole : FunD K "is_whole" "is_whole" (defArgs s_is_whole) (defBody s_is_whole) (defScope s_is_whole) [] [] f_is_whole fd_is_whole
  g_is_whole : mg "is_whole" = some (.ref f_is_whole)
  f_is_number : Addr
  fd_is_number : FuncData
  F_is_number : FunD K "is_number" "is_number" (defArgs s_is_number) (defBody s_is_number) (defScope s_is_number) [] [] f_is_number fd_is_number
  g_is_number : mg "is_number" = some (.ref f_is_number)
  f_is_standing : Addr
  fd_is_standing : FuncData
  F_is_standing : FunD K "is_standing" "is_standing" (defArgs s_is_standing) (defBody s_is_standing) (defScope s_is_standing) [] [] f_is_standing fd_is_standing
  g_is_standing : mg "is_standing" = some (.ref f_is_standing)
  f_check_names : Addr
  fd_check_names : FuncData
  F_check_names : FunD K "check_names" "check_names" (defArgs s_check_names) (defBody s_check_names) (defScope s_check_names) [] [] f_check_names fd_check_names
  g_check_names : mg "check_names" = some (.ref f_check_names)
  f_check_terms : Addr
  fd_check_terms : FuncData
  F_check_terms : FunD K "check_terms" "check_terms" (defArgs s_check_terms) (defBody s_check_terms) (defScope s_check_terms) [] [] f_check_terms fd_check_terms
  g_check_terms : mg "check_terms" = some (.ref f_check_terms)
  f_check_rank : Addr
  fd_check_rank : FuncData
  F_check_rank : FunD K "check_rank" "check_rank" (defArgs s_check_rank) (defBody s_check_rank) (defScope s_check_rank) [] [] f_check_rank fd_check_rank
  g_check_rank : mg "check_rank" = some (.ref f_check_rank)
  f_Asking_init : Addr
  fd_Asking_init : FuncData
  F_Asking_init : FunD K "__init__" "Asking.__init__" (defArgs s_Asking_init) (defBody s_Asking_init) (defScope s_Asking_init) [] [] f_Asking_init fd_Asking_init
  f_Work_init : Addr
  fd_Work_init : FuncData
  F_Work_init : FunD K "__init__" "Work.__init__" (defArgs s_Work_init) (defBody s_Work_init) (defScope s_Work_init) [] [("rank", .int 0)] f_Work_init fd_Work_init
  f_Hire_init : Addr
  fd_Hire_init : FuncData
  F_Hire_init : FunD K "__init__" "Hire.__init__" (defArgs s_Hire_init) (defBody s_Hire_init) (defScope s_Hire_init) [] [("rank", .int 0)] f_Hire_init fd_Hire_init
  f_law_bag : Addr
  fd_law_bag : FuncData
  F_law_bag : FunD K "_law_bag" "_law_bag" (defArgs s_law_bag) (defBody s_law_bag) (defScope s_law_bag) [] [] f_law_bag fd_law_bag
  g_law_bag : mg "_law_bag" = some (.ref f_law_bag)
  f_law_take : Addr
  fd_law_take : FuncData
  F_law_take : FunD K "_law_take" "_law_take" (defArgs s_law_take) (defBody s_law_take) (defScope s_law_take) [] [] f_law_take fd_law_take
  g_law_take : mg "_law_take" = some (.ref f_law_take)
  f_law_of : Addr
  fd_law_of : FuncData
  F_law_of : FunD K "_law_of" "_law_of" (defArgs s_law_of) (defBody s_law_of) (defScope s_law_of) [] [] f_law_of fd_law_of
  g_law_of : mg "_law_of" = some (.ref f_law_of)
  f_law_same : Addr
  fd_law_same : FuncData
  F_law_same : FunD K "_law_same" "_law_same" (defArgs s_law_same) (defBody s_law_same) (defScope s_law_same) [] [] f_law_same fd_law_same
  g_law_same : mg "_law_same" = some (.ref f_law_same)
  f_law_names : Addr
  fd_law_names : FuncData
  F_law_names : FunD K "_law_names" "_law_names" (defArgs s_law_names) (defBody s_law_names) (defScope s_law_names) [.int 6] [] f_law_names fd_law_names
  g_law_names : mg "_law_names" = some (.ref f_law_names)
  f_law_parts : Addr
  fd_law_parts : FuncData
  F_law_parts : FunD K "_law_parts" "_law_parts" (defArgs s_law_parts) (defBody s_law_parts) (defScope s_law_parts) [] [] f_law_parts fd_law_parts
  g_law_parts : mg "_law_parts" = some (.ref f_law_parts)
  f_law_try : Addr
  fd_law_try : FuncData
  F_law_try : FunD K "_law_try" "_law_try" (defArgs s_law_try) (defBody s_law_try) (defScope s_law_try) [] [] f_law_try fd_law_try
  g_law_try : mg "_law_try" = some (.ref f_law_try)
  f_law_why : Addr
  fd_law_why : FuncData
  F_law_why : FunD K "_law_why" "_law_why" (defArgs s_law_why) (defBody s_law_why) (defScope s_law_why) [] [] f_law_why fd_law_why
  g_law_why : mg "_law_why" = some (.ref f_law_why)
  f_law_is_count : Addr
  fd_law_is_count : FuncData
  F_law_is_count : FunD K "_law_is_count" "_law_is_count" (defArgs s_law_is_count) (defBody s_law_is_count) (defScope s_law_is_count) [] [] f_law_is_count fd_law_is_count
  g_law_is_count : mg "_law_is_count" = some (.ref f_law_is_count)
  f_law_is_call : Addr
  fd_law_is_call : FuncData
  F_law_is_call : FunD K "_law_is_call" "_law_is_call" (defArgs s_law_is_call) (defBody s_law_is_call) (defScope s_law_is_call) [] [] f_law_is_call fd_law_is_call
  g_law_is_call : mg "_law_is_call" = some (.ref f_law_is_call)
  f_law_is_spot : Addr
  fd_law_is_spot : FuncData
  F_law_is_spot : FunD K "_law_is_spot" "_law_is_spot" (defArgs s_law_is_spot) (defBody s_law_is_spot) (defScope s_law_is_spot) [] [] f_law_is_spot fd_law_is_spot
  g_law_is_spot : mg "_law_is_spot" = some (.ref f_law_is_spot)
  f_law_due : Addr
  fd_law_due : FuncData
  F_law_due : FunD K "_law_due" "_law_due" (defArgs s_law_due) (defBody s_law_due) (defScope s_law_due) [] [] f_law_due fd_law_due
  g_law_due : mg "_law_due" = some (.ref f_law_due)
  f_law_good : Addr
  fd_law_good : FuncData
  F_law_good : FunD K "_law_good" "_law_good" (defArgs s_law_good) (defBody s_law_good) (defScope s_law_good) [] [] f_law_good fd_law_good
  g_law_good : mg "_law_good" = some (.ref f_law_good)
  f_law_bad : Addr
  fd_law_bad : FuncData
  F_law_bad : FunD K "_law_bad" "_law_bad" (defArgs s_law_bad) (defBody s_law_bad) (defScope s_law_bad) [] [] f_law_bad fd_law_bad
  g_law_bad : mg "_law_bad" = some (.ref f_law_bad)
  f_law_asked : Addr
  fd_law_asked : FuncData
  F_law_asked : FunD K "_law_asked" "_law_asked" (defArgs s_law_asked) (defBody s_law_asked) (defScope s_law_asked) [] [] f_law_asked fd_law_asked
  g_law_asked : mg "_law_asked" = some (.ref f_law_asked)
  a_law_asked : f_law_asked = He.fAd K ("_law_asked", none)
  f_law : Addr
  fd_law : FuncData
  F_law : FunD K "law" "law" (defArgs s_law) (defBody s_law) (defScope s_law) [] [] f_law fd_law
  g_law : mg "law" = some (.ref f_law)
  b_all : mg "all" = none
  b_bool : mg "bool" = none
  b_dict : mg "dict" = none
  b_int : mg "int" = none
  b_isinstance : mg "isinstance" = none
  b_len : mg "len" = none
  b_list : mg "list" = none
  b_range : mg "range" = none
  b_str : mg "str" = none
  b_tuple : mg "tuple" = none
  b_super : mg "super" = none
  c_LAST_HOUR : GlV (gg K) mg "LAST_HOUR" c_LAST_HOUR
  c_LETTERS : GlV (gg K) mg "LETTERS" c_LETTERS
  gc_StandError : mg "StandError" = some (.ref (He.ga K "StandError"))
  gc_InvalidName : mg "InvalidName" = some (.ref (He.ga K "InvalidName"))
  gc_InvalidNumber : mg "InvalidNumber" = some (.ref (He.ga K "InvalidNumber"))
  gc_InvalidStanding : mg "InvalidStanding" = some (.ref (He.ga K "InvalidStanding"))
  gc_Missing : mg "Missing" = some (.ref (He.ga K "Missing"))
  gc_Asking : mg "Asking" = some (.ref (He.ga K "Asking"))
  gc_Work : mg "Work" = some (.ref (He.ga K "Work"))
  gc_Hire : mg "Hire" = some (.ref (He.ga K "Hire"))
  cc_InvalidName : Addr
  cd_InvalidName : Addr
  fi_InvalidName : FuncData
  I_InvalidName : DH.IniF PP K xd_InvalidName cc_InvalidName cd_InvalidName fi_InvalidName
  cc_InvalidNumber : Addr
  cd_InvalidNumber : Addr
  fi_InvalidNumber : FuncData
  I_InvalidNumber : DH.IniF PP K xd_InvalidNumber cc_InvalidNumber cd_InvalidNumber fi_InvalidNumber
  cc_InvalidStanding : Addr
  cd_InvalidStanding : Addr
  fi_InvalidStanding : FuncData
  I_InvalidStanding : DH.IniF PP K xd_InvalidStanding cc_InvalidStanding cd_InvalidStanding fi_InvalidStanding
  K_Asking : Mk K (He.ga K "Asking") f_Asking_init
  D_Asking_init : ClsDef K (He.ga K "Asking") "__init__" f_Asking_init
  K_Work : Mk K (He.ga K "Work") f_Work_init
  D_Work_init : ClsDef K (He.ga K "Work") "__init__" f_Work_init
  K_Hire : Mk K (He.ga K "Hire") f_Hire_init
  D_Hire_init : ClsDef K (He.ga K "Hire") "__init__" f_Hire_init
  A_begins : FldAll K (gg K) ics "begins"
  A_crews : FldAll K (gg K) ics "crews"
  A_end : FldAll K (gg K) ics "end"
  A_fee : FldAll K (gg K) ics "fee"
  A_key : FldAll K (gg K) ics "key"
  A_name : FldAll K (gg K) ics "name"
  A_owner : FldAll K (gg K) ics "owner"
  A_price : FldAll K (gg K) ics "price"
  A_rank : FldAll K (gg K) ics "rank"
  A_start : FldAll K (gg K) ics "start"
  X_at : XfAll K (gg K) xcs "at"
  X_code : XfAll K (gg K) xcs "code"
  X_key : XfAll K (gg K) xcs "key"
  X_line : XfAll K (gg K) xcs "line"
  X_most : XfAll K (gg K) xcs "most"
  X_name : XfAll K (gg K) xcs "name"
  X_standing : XfAll K (gg K) xcs "standing"
  X_value : XfAll K (gg K) xcs "value"
  X_why : XfAll K (gg K) xcs "why"
  no_InvalidName : ∀ n ∈ (["code", "value"] : List Str), PySem.W.findIn K (.ref (He.ga K "InvalidName")) n = some none
  no_InvalidNumber : ∀ n ∈ (["code", "value"] : List Str), PySem.W.findIn K (.ref (He.ga K "InvalidNumber")) n = some none
  no_InvalidStanding : ∀ n ∈ (["code", "value"] : List Str), PySem.W.findIn K (.ref (He.ga K "InvalidStanding")) n = some none
  x_caught : ∀ c ∈ xcs, PySem.W.exmAny K (.ref ((gg K).C c)) [.ref (He.ga K "StandError"), .ref (He.ga K "Missing")] = some true
section
variable {w : World} {K : PySem.W.Frag} {mg : Str → Option Value} {base : Heap}
theorem tu0 : ∀ p ∈ (gg K).T, p.1 = (He.cT K ("_law_asked", none)).2 → p.2 = lq0 := fun p hp _ => by
  rw [List.mem_singleton.mp hp]
theorem B_is_name (T : TX K mg) : Binds K T.fd_is_name ["value"] [] := T.F_is_name.bindsN fun _ _ _ _ _ _ us hl => match us, hl with | [_], _ => rfl
theorem B_is_whole (T : TX K mg) : Binds K T.fd_is_whole ["value"] [] := T.F_is_whole.bindsN fun _ _ _ _ _ _ us hl => match us, hl with | [_], _ => rfl
theorem B_is_number (T : TX K mg) : Binds K T.fd_is_number ["value", "least", "most"] [] := T.F_is_number.bindsN fun _ _ _ _ _ _ us hl => match us, hl with | [_, _, _], _ => rfl
theorem B_is_standing (T : TX K mg) : Binds K T.fd_is_standing ["value"] [] := T.F_is_standing.bindsN fun _ _ _ _ _ _ us hl => match us, hl with | [_], _ => rfl
theorem B_check_names (T : TX K mg) : Binds K T.fd_check_names ["name", "owner"] [] := T.F_check_names.bindsN fun _ _ _ _ _ _ us hl => match us, hl with | [_, _], _ => rfl
theorem B_check_terms (T : TX K mg) : Binds K T.fd_check_terms ["crews", "price"] [] := T.F_check_terms.bindsN fun _ _ _ _ _ _ us hl => match us, hl with | [_, _], _ => rfl
theorem B_check_rank (T : TX K mg) : Binds K T.fd_check_rank ["rank"] [] := T.F_check_rank.bindsN fun _ _ _ _ _ _ us hl => match us, hl with | [_], _ => rfl
theorem B_Asking_init (T : TX K mg) : Binds K T.fd_Asking_init ["self", "name", "owner", "crews", "price", "rank"] [] := T.F_Asking_init.bindsN fun _ _ _ _ _ _ us hl => match us, hl with | [_, _, _, _, _, _], _ => rfl
theorem B_law_bag (T : TX K mg) : Binds K T.fd_law_bag ["_law_script"] [] := T.F_law_bag.bindsN fun _ _ _ _ _ _ us hl => match us, hl with | [_], _ => rfl
theorem B_law_take (T : TX K mg) : Binds K T.fd_law_take ["_law_bag_here", "_law_size"] [] := T.F_law_take.bindsN fun _ _ _ _ _ _ us hl => match us, hl with | [_, _], _ => rfl
theorem B_law_of (T : TX K mg) : Binds K T.fd_law_of ["_law_bag_here", "_law_some"] [] := T.F_law_of.bindsN fun _ _ _ _ _ _ us hl => match us, hl with | [_, _], _ => rfl
theorem B_law_same (T : TX K mg) : Binds K T.fd_law_same ["_law_found", "_law_due_here"] [] := T.F_law_same.bindsN fun _ _ _ _ _ _ us hl => match us, hl with | [_, _], _ => rfl
theorem B_law_parts (T : TX K mg) : Binds K T.fd_law_parts ["_law_e"] [] := T.F_law_parts.bindsN fun _ _ _ _ _ _ us hl => match us, hl with | [_], _ => rfl
theorem B_law_try (T : TX K mg) : Binds K T.fd_law_try ["_law_ask"] [] := T.F_law_try.bindsN fun _ _ _ _ _ _ us hl => match us, hl with | [_], _ => rfl
theorem B_law_why (T : TX K mg) : Binds K T.fd_law_why ["_law_ask"] [] := T.F_law_why.bindsN fun _ _ _ _ _ _ us hl => match us, hl with | [_], _ => rfl
theorem B_law_is_count (T : TX K mg) : Binds K T.fd_law_is_count ["_law_thing", "_law_low", "_law_high"] [] := T.F_law_is_count.bindsN fun _ _ _ _ _ _ us hl => match us, hl with | [_, _, _], _ => rfl
theorem B_law_is_call (T : TX K mg) : Binds K T.fd_law_is_call ["_law_thing"] [] := T.F_law_is_call.bindsN fun _ _ _ _ _ _ us hl => match us, hl with | [_], _ => rfl
theorem B_law_is_spot (T : TX K mg) : Binds K T.fd_law_is_spot ["_law_thing"] [] := T.F_law_is_spot.bindsN fun _ _ _ _ _ _ us hl => match us, hl with | [_], _ => rfl
theorem B_law_due (T : TX K mg) : Binds K T.fd_law_due ["_law_row"] [] := T.F_law_due.bindsN fun _ _ _ _ _ _ us hl => match us, hl with | [_], _ => rfl
theorem B_law_good (T : TX K mg) : Binds K T.fd_law_good ["_law_bag_here", "_law_calls"] [] := T.F_law_good.bindsN fun _ _ _ _ _ _ us hl => match us, hl with | [_, _], _ => rfl
theorem B_law_bad (T : TX K mg) : Binds K T.fd_law_bad ["_law_bag_here", "_law_row", "_law_at"] [] := T.F_law_bad.bindsN fun _ _ _ _ _ _ us hl => match us, hl with | [_, _, _], _ => rfl
theorem B_law_asked (T : TX K mg) : Binds K T.fd_law_asked ["_law_bag_here", "_law_row"] [] := T.F_law_asked.bindsN fun _ _ _ _ _ _ us hl => match us, hl with | [_, _], _ => rfl
theorem B_law (T : TX K mg) : Binds K T.fd_law ["_law_script"] [] := T.F_law.bindsN fun _ _ _ _ _ _ us hl => match us, hl with | [_], _ => rfl
theorem xb_InvalidName (T : TX K mg) : Binds K T.fi_InvalidName ["self", "value"] [] := T.I_InvalidName.binds fun _ _ _ _ _ _ _ us hl => match us, hl with | [_, _], _ => rfl
theorem xi_InvalidName (T : TX K mg) : FnOk PP w K mg base (L2.CX PP w) 1 (He.ma K (He.ga K "InvalidName") "__init__") T.fi_InvalidName ["self", "value"] (spXI (gg K) (He.ga K "InvalidName") ["self", "value", "__class__"] ([0].map (· + 1)) "InvalidName" (pvOf ["value"] 1) 2) := by
  refine xinit_ok (k := 0) rfl T.I_InvalidName.init (nscope_by (by decide +kernel)) exT_V T.I_InvalidName.cls rfl T.b_super ⟨_, rfl, rfl⟩ (by decide +kernel) rfl (by decide) (T.no_InvalidName _ (by decide)) (fun p hp => T.no_InvalidName _ (by revert p hp; decide)) (fun A outer s H E hr => ?_) fun A outer s H E => ⟨pv 0, ?_⟩
  · exact pe_msgs rfl hr (.arg (pv 1) (.txt (by decide) .nil)) (by decide)
  · exact (.slot (pv 0) (pv 1) (by rfl) .nil)
theorem xb_InvalidNumber (T : TX K mg) : Binds K T.fi_InvalidNumber ["self", "value"] [] := T.I_InvalidNumber.binds fun _ _ _ _ _ _ _ us hl => match us, hl with | [_, _], _ => rfl
theorem xi_InvalidNumber (T : TX K mg) : FnOk PP w K mg base (L2.CX PP w) 1 (He.ma K (He.ga K "InvalidNumber") "__init__") T.fi_InvalidNumber ["self", "value"] (spXI (gg K) (He.ga K "InvalidNumber") ["self", "value", "__class__"] ([0].map (· + 1)) "InvalidNumber" (pvOf ["value"] 1) 2) := by
  refine xinit_ok (k := 0) rfl T.I_InvalidNumber.init (nscope_by (by decide +kernel)) exT_V T.I_InvalidNumber.cls rfl T.b_super ⟨_, rfl, rfl⟩ (by decide +kernel) rfl (by decide) (T.no_InvalidNumber _ (by decide)) (fun p hp => T.no_InvalidNumber _ (by revert p hp; decide)) (fun A outer s H E hr => ?_) fun A outer s H E => ⟨pv 0, ?_⟩
  · exact pe_msgs rfl hr (.arg (pv 1) (.txt (by decide) .nil)) (by decide)
  · exact (.slot (pv 0) (pv 1) (by rfl) .nil)
theorem xb_InvalidStanding (T : TX K mg) : Binds K T.fi_InvalidStanding ["self", "value"] [] := T.I_InvalidStanding.binds fun _ _ _ _ _ _ _ us hl => match us, hl with | [_, _], _ => rfl
theorem xi_InvalidStanding (T : TX K mg) : FnOk PP w K mg base (L2.CX PP w) 1 (He.ma K (He.ga K "InvalidStanding") "__init__") T.fi_InvalidStanding ["self", "value"] (spXI (gg K) (He.ga K "InvalidStanding") ["self", "value", "__class__"] ([0].map (· + 1)) "InvalidStanding" (pvOf ["value"] 1) 2) := by
  refine xinit_ok (k := 0) rfl T.I_InvalidStanding.init (nscope_by (by decide +kernel)) exT_V T.I_InvalidStanding.cls rfl T.b_super ⟨_, rfl, rfl⟩ (by decide +kernel) rfl (by decide) (T.no_InvalidStanding _ (by decide)) (fun p hp => T.no_InvalidStanding _ (by revert p hp; decide)) (fun A outer s H E hr => ?_) fun A outer s H E => ⟨pv 0, ?_⟩
  · exact pe_msgs rfl hr (.arg (pv 1) (.txt (by decide) .nil)) (by decide)
  · exact (.slot (pv 0) (pv 1) (by rfl) .nil)
theorem kb_Work_init_0 (T : TX K mg) : BindD K T.fd_Work_init ["self", "name", "owner", "start", "end", "crews", "price", "rank"] 7 ["rank"] (fun vs zs => kg_Work_init_0 vs zs) :=
  bindD_plain T.F_Work_init 7 ["rank"] kg_Work_init_0 (fun {vs zs us ws} l1 l2 r1 r2 => by
    match us, l1, vs, r1, ws, l2, zs, r2 with
    | [_, _, _, _, _, _, _], _, [_, _, _, _, _, _, _], .cons a0 (.cons a1 (.cons a2 (.cons a3 (.cons a4 (.cons a5 (.cons a6 .nil)))))), [_], _, [_], .cons b0 .nil => exact .cons a0 (.cons a1 (.cons a2 (.cons a3 (.cons a4 (.cons a5 (.cons a6 (.cons b0 .nil)))))))) fun _ _ _ _ _ _ us ws l1 l2 => match us, l1, ws, l2 with | [_, _, _, _, _, _, _], _, [_], _ => rfl
theorem kr_Work_init_0 {g : G} (M : Mt) (vs : List V) (us : List D) (zs : List V) (ws : List D) (l1 : us.length = 7) (l2 : ws.length = 1) (r1 : Reps g M vs us) (r2 : Reps g M zs ws) : Reps g M (kg_Work_init_0 vs zs) (kd_Work_init_0 us ws) := by
    match us, l1, vs, r1, ws, l2, zs, r2 with
    | [_, _, _, _, _, _, _], _, [_, _, _, _, _, _, _], .cons a0 (.cons a1 (.cons a2 (.cons a3 (.cons a4 (.cons a5 (.cons a6 .nil)))))), [_], _, [_], .cons b0 .nil => exact .cons a0 (.cons a1 (.cons a2 (.cons a3 (.cons a4 (.cons a5 (.cons a6 (.cons b0 .nil)))))))
theorem kb_Work_init_1 (T : TX K mg) : BindD K T.fd_Work_init ["self", "name", "owner", "start", "end", "crews", "price", "rank"] 1 ["rank", "price", "crews", "end", "start", "owner", "name"] (fun vs zs => kg_Work_init_1 vs zs) :=
  bindD_plain T.F_Work_init 1 ["rank", "price", "crews", "end", "start", "owner", "name"] kg_Work_init_1 (fun {vs zs us ws} l1 l2 r1 r2 => by
    match us, l1, vs, r1, ws, l2, zs, r2 with
    | [_], _, [_], .cons a0 .nil, [_, _, _, _, _, _, _], _, [_, _, _, _, _, _, _], .cons b0 (.cons b1 (.cons b2 (.cons b3 (.cons b4 (.cons b5 (.cons b6 .nil)))))) => exact .cons a0 (.cons b6 (.cons b5 (.cons b4 (.cons b3 (.cons b2 (.cons b1 (.cons b0 .nil)))))))) fun _ _ _ _ _ _ us ws l1 l2 => match us, l1, ws, l2 with | [_], _, [_, _, _, _, _, _, _], _ => rfl
theorem kr_Work_init_1 {g : G} (M : Mt) (vs : List V) (us : List D) (zs : List V) (ws : List D) (l1 : us.length = 1) (l2 : ws.length = 7) (r1 : Reps g M vs us) (r2 : Reps g M zs ws) : Reps g M (kg_Work_init_1 vs zs) (kd_Work_init_1 us ws) := by
    match us, l1, vs, r1, ws, l2, zs, r2 with
    | [_], _, [_], .cons a0 .nil, [_, _, _, _, _, _, _], _, [_, _, _, _, _, _, _], .cons b0 (.cons b1 (.cons b2 (.cons b3 (.cons b4 (.cons b5 (.cons b6 .nil)))))) => exact .cons a0 (.cons b6 (.cons b5 (.cons b4 (.cons b3 (.cons b2 (.cons b1 (.cons b0 .nil)))))))
theorem kb_Hire_init_2 (T : TX K mg) : BindD K T.fd_Hire_init ["self", "name", "owner", "end", "crews", "price", "rank"] 6 ["rank"] (fun vs zs => kg_Hire_init_2 vs zs) :=
  bindD_plain T.F_Hire_init 6 ["rank"] kg_Hire_init_2 (fun {vs zs us ws} l1 l2 r1 r2 => by
    match us, l1, vs, r1, ws, l2, zs, r2 with
    | [_, _, _, _, _, _], _, [_, _, _, _, _, _], .cons a0 (.cons a1 (.cons a2 (.cons a3 (.cons a4 (.cons a5 .nil))))), [_], _, [_], .cons b0 .nil => exact .cons a0 (.cons a1 (.cons a2 (.cons a3 (.cons a4 (.cons a5 (.cons b0 .nil))))))) fun _ _ _ _ _ _ us ws l1 l2 => match us, l1, ws, l2 with | [_, _, _, _, _, _], _, [_], _ => rfl
theorem kr_Hire_init_2 {g : G} (M : Mt) (vs : List V) (us : List D) (zs : List V) (ws : List D) (l1 : us.length = 6) (l2 : ws.length = 1) (r1 : Reps g M vs us) (r2 : Reps g M zs ws) : Reps g M (kg_Hire_init_2 vs zs) (kd_Hire_init_2 us ws) := by
    match us, l1, vs, r1, ws, l2, zs, r2 with
    | [_, _, _, _, _, _], _, [_, _, _, _, _, _], .cons a0 (.cons a1 (.cons a2 (.cons a3 (.cons a4 (.cons a5 .nil))))), [_], _, [_], .cons b0 .nil => exact .cons a0 (.cons a1 (.cons a2 (.cons a3 (.cons a4 (.cons a5 (.cons b0 .nil))))))
theorem kb_Hire_init_3 (T : TX K mg) : BindD K T.fd_Hire_init ["self", "name", "owner", "end", "crews", "price", "rank"] 1 ["rank", "price", "crews", "end", "owner", "name"] (fun vs zs => kg_Hire_init_3 vs zs) :=
  bindD_plain T.F_Hire_init 1 ["rank", "price", "crews", "end", "owner", "name"] kg_Hire_init_3 (fun {vs zs us ws} l1 l2 r1 r2 => by
    match us, l1, vs, r1, ws, l2, zs, r2 with
    | [_], _, [_], .cons a0 .nil, [_, _, _, _, _, _], _, [_, _, _, _, _, _], .cons b0 (.cons b1 (.cons b2 (.cons b3 (.cons b4 (.cons b5 .nil))))) => exact .cons a0 (.cons b5 (.cons b4 (.cons b3 (.cons b2 (.cons b1 (.cons b0 .nil))))))) fun _ _ _ _ _ _ us ws l1 l2 => match us, l1, ws, l2 with | [_], _, [_, _, _, _, _, _], _ => rfl
theorem kr_Hire_init_3 {g : G} (M : Mt) (vs : List V) (us : List D) (zs : List V) (ws : List D) (l1 : us.length = 1) (l2 : ws.length = 6) (r1 : Reps g M vs us) (r2 : Reps g M zs ws) : Reps g M (kg_Hire_init_3 vs zs) (kd_Hire_init_3 us ws) := by
    match us, l1, vs, r1, ws, l2, zs, r2 with
    | [_], _, [_], .cons a0 .nil, [_, _, _, _, _, _], _, [_, _, _, _, _, _], .cons b0 (.cons b1 (.cons b2 (.cons b3 (.cons b4 (.cons b5 .nil))))) => exact .cons a0 (.cons b5 (.cons b4 (.cons b3 (.cons b2 (.cons b1 (.cons b0 .nil))))))
theorem kb_law_names_4 (T : TX K mg) : BindD K T.fd_law_names ["_law_bag_here", "_law_count", "_law_cap"] 2 [] (fun vs zs => kg_law_names_4 vs [.int 6] zs) :=
  bindD_dfl T.F_law_names 2 [] kg_law_names_4 (by simp) (fun {vs zs us its ws} l1 l2 r1 rd r2 => by
    match us, l1, vs, r1, its, rd, ws, l2, zs, r2 with
    | [_, _], _, [_, _], .cons a0 (.cons a1 .nil), [_], .cons e0 .nil, [], _, [], .nil => exact .cons a0 (.cons a1 (.cons e0 .nil))) fun _ _ _ _ _ _ _ us its ws l1 ld l2 => match us, l1, its, ld, ws, l2 with | [_, _], _, [_], _, [], _ => ⟨_, rfl, rfl⟩
theorem kr_law_names_4 {g : G} (M : Mt) (vs : List V) (us : List D) (zs : List V) (ws : List D) (l1 : us.length = 2) (l2 : ws.length = 0) (r1 : Reps g M vs us) (r2 : Reps g M zs ws) : Reps g M (kg_law_names_4 vs [.int 6] zs) (kd_law_names_4 us ws) := by
    match us, l1, vs, r1, ws, l2, zs, r2 with
    | [_, _], _, [_, _], .cons a0 (.cons a1 .nil), [], _, [], .nil => exact .cons a0 (.cons a1 (.cons (.int _) .nil))
theorem ok_is_name (T : TX K mg) : FnOk PP w K mg base (L2.CX PP w) 1 T.f_is_name T.fd_is_name ["value"] (spF (gg K) 1 m_is_name) := by
  refine fun_ok fb_is_name T.F_is_name sc_is_name rfl rfl rfl fun cdv A outer s H E hr => ?_
  have takesE := takes_of (E := E) (X := cxOf (L2.CX PP w) PP w K mg base N_is_name "is_name" (defScope s_is_name) T.f_is_name cdv A outer s H E) rfl rfl rfl rfl
  exact (s_cons (s_if (PW.pt (w_or (t_not (t_val (d_isi (T := .str) rfl rfl (by rfl) T.b_str (by decide +kernel) (by rfl) T.b_isinstance boot_isinstance (d_var 0 (pv 0))))) (w_or1 (t_not (t_chain o_le o_le d_int (d_callB (o_len rfl) (by rfl) T.b_len PySem.boot_len (d_cons (d_var 0 (pv 0)) d_nil)) d_int))))) (s_one (s_ret d_bl)) s_nil)
  (s_one (s_ret (d_callB (o_all rfl) (by rfl) T.b_all PyProof.Rows.boot_all (d_cons (d_lc (own := [("letter", 1)]) rfl sc_is_name.nd (i_any rfl (d_var 0 (pv 0))) (blkOk_by (own := [("letter", 1)]) (N := N_is_name) (sc := defScope s_is_name) (by decide +kernel)) (fun _ _ _ _ _ => (g_name (i := 1) sc_is_name.nd rfl (Or.inl rfl))) (fun _ _ _ _ _ => ts_nil) (fun _ _ _ _ _ => (d_cmp (o_in rfl (hu200 hr)) (d_var 1 (pv 1)) (d_glob T.c_LETTERS (by rfl)) (by rfl))) (by decide)) d_nil)))))
theorem ok_is_whole (T : TX K mg) : FnOk PP w K mg base (L2.CX PP w) 1 T.f_is_whole T.fd_is_whole ["value"] (spF (gg K) 1 m_is_whole) := by
  refine fun_ok fb_is_whole T.F_is_whole sc_is_whole rfl rfl rfl fun cdv A outer s H E hr => ?_
  have takesE := takes_of (E := E) (X := cxOf (L2.CX PP w) PP w K mg base N_is_whole "is_whole" (defScope s_is_whole) T.f_is_whole cdv A outer s H E) rfl rfl rfl rfl
  exact (s_one (s_ret (d_and (d_isi (T := .int) rfl rfl (by rfl) T.b_int (by decide +kernel) (by rfl) T.b_isinstance boot_isinstance (d_var 0 (pv 0))) (d_one (d_not (d_isi (T := .bool) rfl rfl (by rfl) T.b_bool (by decide +kernel) (by rfl) T.b_isinstance boot_isinstance (d_var 0 (pv 0))))))))
theorem ok_is_number (T : TX K mg) : FnOk PP w K mg base (L2.CX PP w) 2 T.f_is_number T.fd_is_number ["value", "least", "most"] (spF (gg K) 3 m_is_number) := by
  refine fun_ok fb_is_number T.F_is_number sc_is_number rfl rfl rfl fun cdv A outer s H E hr => ?_
  have takesE := takes_of (E := E) (X := cxOf (L2.CX PP w) PP w K mg base N_is_number "is_number" (defScope s_is_number) T.f_is_number cdv A outer s H E) rfl rfl rfl rfl
  exact (s_one (s_ret (d_and (d_call (ok_is_whole T) (hr.mono (by decide)) (by rfl) T.g_is_whole T.F_is_whole.kp (B_is_whole T) .nil (fun _ => .nil) takesE (d_cons (d_var 0 (pv 0)) d_nil)) (d_one (d_chain o_le o_le (d_var 1 (pv 1)) (d_var 0 (pv 0)) (d_var 2 (pv 2)))))))
theorem ok_is_standing (T : TX K mg) : FnOk PP w K mg base (L2.CX PP w) 3 T.f_is_standing T.fd_is_standing ["value"] (spF (gg K) 1 m_is_standing) := by
  refine fun_ok fb_is_standing T.F_is_standing sc_is_standing rfl rfl rfl fun cdv A outer s H E hr => ?_
  have takesE := takes_of (E := E) (X := cxOf (L2.CX PP w) PP w K mg base N_is_standing "is_standing" (defScope s_is_standing) T.f_is_standing cdv A outer s H E) rfl rfl rfl rfl
  exact (s_cons (s_if (PW.pt (w_or (t_not (t_val (d_isi (T := .tuple) rfl rfl (by rfl) T.b_tuple (by decide +kernel) (by rfl) T.b_isinstance boot_isinstance (d_var 0 (pv 0))))) (w_or1 (t_cmp (o_ne rfl (hu100 hr)) (d_callB (o_len rfl) (by rfl) T.b_len PySem.boot_len (d_cons (d_var 0 (pv 0)) d_nil)) d_int (nomark _))))) (s_one (s_ret d_bl)) s_nil)
  (s_one (s_ret (d_and (d_call (ok_is_name T) (hr.mono (by decide)) (by rfl) T.g_is_name T.F_is_name.kp (B_is_name T) .nil (fun _ => .nil) takesE (d_cons (d_ix rfl (d_var 0 (pv 0)) d_int (fun _ _ => rfl)) d_nil)) (d_one (d_call (ok_is_number T) (hr.mono (by decide)) (by rfl) T.g_is_number T.F_is_number.kp (B_is_number T) .nil (fun _ => .nil) takesE (d_cons (d_ix rfl (d_var 0 (pv 0)) d_int (fun _ _ => rfl)) (d_cons d_int (d_cons (d_glob T.c_LAST_HOUR (by rfl)) d_nil)))))))))
theorem ok_check_names (T : TX K mg) : FnOk PP w K mg base (L2.CX PP w) 3 T.f_check_names T.fd_check_names ["name", "owner"] (spF (gg K) 2 m_check_names) := by
  refine fun_ok fb_check_names T.F_check_names sc_check_names rfl rfl rfl fun cdv A outer s H E hr => ?_
  have takesE := takes_of (E := E) (X := cxOf (L2.CX PP w) PP w K mg base N_check_names "check_names" (defScope s_check_names) T.f_check_names cdv A outer s H E) rfl rfl rfl rfl
  exact (s_one (s_for PassesOwn.leaving rfl (i_any rfl (d_tup (d_cons (d_var 0 (pv 0)) (d_cons (d_var 1 (pv 1)) d_nil)))) (g_name (i := 2) sc_check_names.nd rfl (Or.inl rfl)) (s_one (s_if (t_not (t_val (d_call (ok_is_name T) (hr.mono (by decide)) (by rfl) T.g_is_name T.F_is_name.kp (B_is_name T) .nil (fun _ => .nil) takesE (d_cons (d_var 2 (pv 2)) d_nil)))) (s_one (s_raise (hC_InvalidName) (by decide) (by decide) rfl takesE exT_V T.I_InvalidName.cls T.I_InvalidName.at_ T.I_InvalidName.fn (xi_InvalidName T) (hr.mono (by decide)) (xb_InvalidName T) (by rfl) T.gc_InvalidName (d_cons (d_var 2 (pv 2)) d_nil))) s_nil))))
theorem ok_check_terms (T : TX K mg) : FnOk PP w K mg base (L2.CX PP w) 3 T.f_check_terms T.fd_check_terms ["crews", "price"] (spF (gg K) 2 m_check_terms) := by
  refine fun_ok fb_check_terms T.F_check_terms sc_check_terms rfl rfl rfl fun cdv A outer s H E hr => ?_
  have takesE := takes_of (E := E) (X := cxOf (L2.CX PP w) PP w K mg base N_check_terms "check_terms" (defScope s_check_terms) T.f_check_terms cdv A outer s H E) rfl rfl rfl rfl
  exact (s_cons (s_if (t_not (t_val (d_call (ok_is_number T) (hr.mono (by decide)) (by rfl) T.g_is_number T.F_is_number.kp (B_is_number T) .nil (fun _ => .nil) takesE (d_cons (d_var 0 (pv 0)) (d_cons d_int (d_cons d_int d_nil)))))) (s_one (s_raise (hC_InvalidNumber) (by decide) (by decide) rfl takesE exT_V T.I_InvalidNumber.cls T.I_InvalidNumber.at_ T.I_InvalidNumber.fn (xi_InvalidNumber T) (hr.mono (by decide)) (xb_InvalidNumber T) (by rfl) T.gc_InvalidNumber (d_cons (d_var 0 (pv 0)) d_nil))) s_nil)
  (s_one (s_if (t_not (t_val (d_call (ok_is_number T) (hr.mono (by decide)) (by rfl) T.g_is_number T.F_is_number.kp (B_is_number T) .nil (fun _ => .nil) takesE (d_cons (d_var 1 (pv 1)) (d_cons d_int (d_cons d_int d_nil)))))) (s_one (s_raise (hC_InvalidNumber) (by decide) (by decide) rfl takesE exT_V T.I_InvalidNumber.cls T.I_InvalidNumber.at_ T.I_InvalidNumber.fn (xi_InvalidNumber T) (hr.mono (by decide)) (xb_InvalidNumber T) (by rfl) T.gc_InvalidNumber (d_cons (d_var 1 (pv 1)) d_nil))) s_nil)))
theorem ok_check_rank (T : TX K mg) : FnOk PP w K mg base (L2.CX PP w) 3 T.f_check_rank T.fd_check_rank ["rank"] (spF (gg K) 1 m_check_rank) := by
  refine fun_ok fb_check_rank T.F_check_rank sc_check_rank rfl rfl rfl fun cdv A outer s H E hr => ?_
  have takesE := takes_of (E := E) (X := cxOf (L2.CX PP w) PP w K mg base N_check_rank "check_rank" (defScope s_check_rank) T.f_check_rank cdv A outer s H E) rfl rfl rfl rfl
  exact (s_one (s_if (t_not (t_val (d_call (ok_is_number T) (hr.mono (by decide)) (by rfl) T.g_is_number T.F_is_number.kp (B_is_number T) .nil (fun _ => .nil) takesE (d_cons (d_var 0 (pv 0)) (d_cons d_int (d_cons d_int d_nil)))))) (s_one (s_raise (hC_InvalidNumber) (by decide) (by decide) rfl takesE exT_V T.I_InvalidNumber.cls T.I_InvalidNumber.at_ T.I_InvalidNumber.fn (xi_InvalidNumber T) (hr.mono (by decide)) (xb_InvalidNumber T) (by rfl) T.gc_InvalidNumber (d_cons (d_var 0 (pv 0)) d_nil))) s_nil))
theorem ok_Asking_init (T : TX K mg) : FnOk PP w K mg base (L2.CX PP w) 1 T.f_Asking_init T.fd_Asking_init ["self", "name", "owner", "crews", "price", "rank"] (spF (gg K) 6 m_Asking_init) := by
  refine fun_ok fb_Asking_init T.F_Asking_init sc_Asking_init rfl rfl rfl fun cdv A outer s H E hr => ?_
  have takesE := takes_of (E := E) (X := cxOf (L2.CX PP w) PP w K mg base N_Asking_init "Asking.__init__" (defScope s_Asking_init) T.f_Asking_init cdv A outer s H E) rfl rfl rfl rfl
  exact (s_cons (s_attr T.A_name (d_var 0 (pv 0)) (d_var 1 (pv 1)))
  (s_cons (s_attr T.A_owner (d_var 0 (pv 0)) (d_var 2 (pv 2)))
  (s_cons (s_attr T.A_crews (d_var 0 (pv 0)) (d_var 3 (pv 3)))
  (s_cons (s_attr T.A_price (d_var 0 (pv 0)) (d_var 4 (pv 4)))
  (s_one (s_attr T.A_rank (d_var 0 (pv 0)) (d_var 5 (pv 5))))))))
theorem ok_Work_init (T : TX K mg) : FnOk PP w K mg base (L2.CX PP w) 4 T.f_Work_init T.fd_Work_init ["self", "name", "owner", "start", "end", "crews", "price", "rank"] (spF (gg K) 8 m_Work_init) := by
  refine fun_ok fb_Work_init T.F_Work_init sc_Work_init rfl rfl rfl fun cdv A outer s H E hr => ?_
  have takesE := takes_of (E := E) (X := cxOf (L2.CX PP w) PP w K mg base N_Work_init "Work.__init__" (defScope s_Work_init) T.f_Work_init cdv A outer s H E) rfl rfl rfl rfl
  exact (s_cons (s_expr (d_call (ok_check_names T) (hr.mono (by decide)) (by rfl) T.g_check_names T.F_check_names.kp (B_check_names T) .nil (fun _ => .nil) takesE (d_cons (d_var 1 (pv 1)) (d_cons (d_var 2 (pv 2)) d_nil))))
  (s_cons (s_if (t_not (t_val (d_call (ok_is_standing T) (hr.mono (by decide)) (by rfl) T.g_is_standing T.F_is_standing.kp (B_is_standing T) .nil (fun _ => .nil) takesE (d_cons (d_var 3 (pv 3)) d_nil)))) (s_one (s_raise (hC_InvalidStanding) (by decide) (by decide) rfl takesE exT_V T.I_InvalidStanding.cls T.I_InvalidStanding.at_ T.I_InvalidStanding.fn (xi_InvalidStanding T) (hr.mono (by decide)) (xb_InvalidStanding T) (by rfl) T.gc_InvalidStanding (d_cons (d_var 3 (pv 3)) d_nil))) s_nil)
  (s_cons (s_if (PW.pt (w_or (t_not (t_val (d_call (ok_is_standing T) (hr.mono (by decide)) (by rfl) T.g_is_standing T.F_is_standing.kp (B_is_standing T) .nil (fun _ => .nil) takesE (d_cons (d_var 4 (pv 4)) d_nil)))) (w_or1 (t_cmp o_le (d_ix rfl (d_var 4 (pv 4)) d_int (fun _ _ => rfl)) (d_ix rfl (d_var 3 (pv 3)) d_int (fun _ _ => rfl)) (nomark _))))) (s_one (s_raise (hC_InvalidStanding) (by decide) (by decide) rfl takesE exT_V T.I_InvalidStanding.cls T.I_InvalidStanding.at_ T.I_InvalidStanding.fn (xi_InvalidStanding T) (hr.mono (by decide)) (xb_InvalidStanding T) (by rfl) T.gc_InvalidStanding (d_cons (d_var 4 (pv 4)) d_nil))) s_nil)
  (s_cons (s_expr (d_call (ok_check_terms T) (hr.mono (by decide)) (by rfl) T.g_check_terms T.F_check_terms.kp (B_check_terms T) .nil (fun _ => .nil) takesE (d_cons (d_var 5 (pv 5)) (d_cons (d_var 6 (pv 6)) d_nil))))
  (s_cons (s_expr (d_call (ok_check_rank T) (hr.mono (by decide)) (by rfl) T.g_check_rank T.F_check_rank.kp (B_check_rank T) .nil (fun _ => .nil) takesE (d_cons (d_var 7 (pv 7)) d_nil)))
  (s_cons (s_expr (d_clsCall T.D_Asking_init (by rfl) T.gc_Asking (ok_Asking_init T) (hr.mono (by decide)) (B_Asking_init T) .nil (fun _ => .nil) takesE (d_cons (d_var 0 (pv 0)) (d_cons (d_var 1 (pv 1)) (d_cons (d_var 2 (pv 2)) (d_cons (d_var 5 (pv 5)) (d_cons (d_var 6 (pv 6)) (d_cons (d_var 7 (pv 7)) d_nil))))))))
  (s_cons (s_attr T.A_start (d_var 0 (pv 0)) (d_var 3 (pv 3)))
  (s_cons (s_attr T.A_end (d_var 0 (pv 0)) (d_var 4 (pv 4)))
  (s_cons (s_attr T.A_key (d_var 0 (pv 0)) (d_tup (d_cons d_str (d_cons (d_var 1 (pv 1)) d_nil))))
  (s_cons (s_attr T.A_fee (d_var 0 (pv 0)) (d_neg (d_var 6 (pv 6))))
  (s_one (s_attr T.A_begins (d_var 0 (pv 0)) (d_ix rfl (d_var 3 (pv 3)) d_int (fun _ _ => rfl))))))))))))))
theorem ok_Hire_init (T : TX K mg) : FnOk PP w K mg base (L2.CX PP w) 4 T.f_Hire_init T.fd_Hire_init ["self", "name", "owner", "end", "crews", "price", "rank"] (spF (gg K) 7 m_Hire_init) := by
  refine fun_ok fb_Hire_init T.F_Hire_init sc_Hire_init rfl rfl rfl fun cdv A outer s H E hr => ?_
  have takesE := takes_of (E := E) (X := cxOf (L2.CX PP w) PP w K mg base N_Hire_init "Hire.__init__" (defScope s_Hire_init) T.f_Hire_init cdv A outer s H E) rfl rfl rfl rfl
  exact (s_cons (s_expr (d_call (ok_check_names T) (hr.mono (by decide)) (by rfl) T.g_check_names T.F_check_names.kp (B_check_names T) .nil (fun _ => .nil) takesE (d_cons (d_var 1 (pv 1)) (d_cons (d_var 2 (pv 2)) d_nil))))
  (s_cons (s_if (t_not (t_val (d_call (ok_is_standing T) (hr.mono (by decide)) (by rfl) T.g_is_standing T.F_is_standing.kp (B_is_standing T) .nil (fun _ => .nil) takesE (d_cons (d_var 3 (pv 3)) d_nil)))) (s_one (s_raise (hC_InvalidStanding) (by decide) (by decide) rfl takesE exT_V T.I_InvalidStanding.cls T.I_InvalidStanding.at_ T.I_InvalidStanding.fn (xi_InvalidStanding T) (hr.mono (by decide)) (xb_InvalidStanding T) (by rfl) T.gc_InvalidStanding (d_cons (d_var 3 (pv 3)) d_nil))) s_nil)
  (s_cons (s_expr (d_call (ok_check_terms T) (hr.mono (by decide)) (by rfl) T.g_check_terms T.F_check_terms.kp (B_check_terms T) .nil (fun _ => .nil) takesE (d_cons (d_var 4 (pv 4)) (d_cons (d_var 5 (pv 5)) d_nil))))
  (s_cons (s_expr (d_call (ok_check_rank T) (hr.mono (by decide)) (by rfl) T.g_check_rank T.F_check_rank.kp (B_check_rank T) .nil (fun _ => .nil) takesE (d_cons (d_var 6 (pv 6)) d_nil)))
  (s_cons (s_expr (d_clsCall T.D_Asking_init (by rfl) T.gc_Asking (ok_Asking_init T) (hr.mono (by decide)) (B_Asking_init T) .nil (fun _ => .nil) takesE (d_cons (d_var 0 (pv 0)) (d_cons (d_var 1 (pv 1)) (d_cons (d_var 2 (pv 2)) (d_cons (d_var 4 (pv 4)) (d_cons (d_var 5 (pv 5)) (d_cons (d_var 6 (pv 6)) d_nil))))))))
  (s_cons (s_attr T.A_start (d_var 0 (pv 0)) (d_tup d_nil))
  (s_cons (s_attr T.A_end (d_var 0 (pv 0)) (d_var 3 (pv 3)))
  (s_cons (s_attr T.A_key (d_var 0 (pv 0)) (d_tup (d_cons d_str (d_cons (d_var 1 (pv 1)) d_nil))))
  (s_cons (s_attr T.A_fee (d_var 0 (pv 0)) (d_var 5 (pv 5)))
  (s_one (s_attr T.A_begins (d_var 0 (pv 0)) (d_ix rfl (d_var 3 (pv 3)) d_int (fun _ _ => rfl)))))))))))))
theorem ok_law_bag (T : TX K mg) : FnOk PP w K mg base (L2.CX PP w) 1 T.f_law_bag T.fd_law_bag ["_law_script"] (spF (gg K) 1 m_law_bag) := by
  refine fun_ok fb_law_bag T.F_law_bag sc_law_bag rfl rfl rfl fun cdv A outer s H E hr => ?_
  have takesE := takes_of (E := E) (X := cxOf (L2.CX PP w) PP w K mg base N_law_bag "_law_bag" (defScope s_law_bag) T.f_law_bag cdv A outer s H E) rfl rfl rfl rfl
  exact (s_cons (s_set (i := 1) sc_law_bag.nd rfl (Or.inl rfl) (d_callT (o_list rfl) (by rfl) T.b_list (by decide +kernel) (d_cons (d_sl rfl (d_var 0 (pv 0)) o_no (o_so d_int)) d_nil)))
  (s_one (s_ret (d_lstM (d_cons (d_var 1 (pv 1)) (d_cons d_int (d_cons d_int (d_cons (d_op (o_add rfl) d_int (d_op o_mul d_int (d_callB (o_len rfl) (by rfl) T.b_len PySem.boot_len (d_cons (d_var 1 (pv 1)) d_nil)))) d_nil))))))))
theorem ok_law_take (T : TX K mg) : FnOk PP w K mg base (L2.CX PP w) 1 T.f_law_take T.fd_law_take ["_law_bag_here", "_law_size"] (spF (gg K) 2 m_law_take) := by
  refine fun_ok fb_law_take T.F_law_take sc_law_take rfl rfl rfl fun cdv A outer s H E hr => ?_
  have takesE := takes_of (E := E) (X := cxOf (L2.CX PP w) PP w K mg base N_law_take "_law_take" (defScope s_law_take) T.f_law_take cdv A outer s H E) rfl rfl rfl rfl
  exact (s_cons (s_if (PW.pt (w_and (t_cmp (o_eq rfl (hu100 hr)) (d_ix rfl (d_var 0 (pv 0)) d_int (fun _ _ => rfl)) d_int (nomark _)) (w_and1 (t_cmp o_lt (d_ix rfl (d_var 0 (pv 0)) d_int (fun _ _ => rfl)) (d_callB (o_len rfl) (by rfl) T.b_len PySem.boot_len (d_cons (d_ix rfl (d_var 0 (pv 0)) d_int (fun _ _ => rfl)) d_nil)) (nomark _))))) (s_cons (s_set (i := 2) sc_law_take.nd rfl (Or.inl rfl) (d_ix rfl (d_ix rfl (d_var 0 (pv 0)) d_int (fun _ _ => rfl)) (d_ix rfl (d_var 0 (pv 0)) d_int (fun _ _ => rfl)) (fun _ _ => rfl)))
  (s_cons (s_asg (d_op (o_add rfl) (d_ix rfl (d_var 0 (pv 0)) d_int (fun _ _ => rfl)) d_int) (g_sub (d_var 0 (pv 0)) d_int))
  (s_cons (s_asg (d_op o_mod (d_callT o_int (by rfl) T.b_int (by decide +kernel) (d_cons (d_op (o_add rfl) (d_op (o_add rfl) (d_op o_mul (d_ix rfl (d_var 0 (pv 0)) d_int (fun _ _ => rfl)) d_int) (d_op o_mul (d_op o_mod (d_callT o_int (by rfl) T.b_int (by decide +kernel) (d_cons (d_var 2 (pv 2)) d_nil)) d_int) d_int)) d_int) d_nil)) d_int) (g_sub (d_var 0 (pv 0)) d_int))
  (s_one (s_if (t_cmp o_ge (d_var 2 (pv 2)) (d_op o_pow d_int d_int) (nomark _)) (s_one (s_asg (d_var 2 (pv 2)) (g_sub (d_var 0 (pv 0)) d_int))) s_nil))))) s_nil)
  (s_cons (s_if (t_cmp o_gt (d_ix rfl (d_var 0 (pv 0)) d_int (fun _ _ => rfl)) d_int (nomark _)) (s_cons (s_set (i := 3) sc_law_take.nd rfl (Or.inl rfl) (d_op o_mod (d_callT o_int (by rfl) T.b_int (by decide +kernel) (d_cons (d_ix rfl (d_var 0 (pv 0)) d_int (fun _ _ => rfl)) d_nil)) (d_var 1 (pv 1))))
  (s_cons (s_asg (d_op o_div (d_ix rfl (d_var 0 (pv 0)) d_int (fun _ _ => rfl)) (d_var 1 (pv 1))) (g_sub (d_var 0 (pv 0)) d_int))
  (s_one (s_ret (d_var 3 (pv 3)))))) s_nil)
  (s_cons (s_asg (d_op o_mod (d_callT o_int (by rfl) T.b_int (by decide +kernel) (d_cons (d_op (o_add rfl) (d_op (o_add rfl) (d_op o_mul (d_ix rfl (d_var 0 (pv 0)) d_int (fun _ _ => rfl)) (d_ix rfl (d_var 0 (pv 0)) d_int (fun _ _ => rfl))) (d_op o_mul (d_ix rfl (d_var 0 (pv 0)) d_int (fun _ _ => rfl)) d_int)) d_int) d_nil)) d_int) (g_sub (d_var 0 (pv 0)) d_int))
  (s_one (s_ret (d_op o_mod (d_callT o_int (by rfl) T.b_int (by decide +kernel) (d_cons (d_op (o_add rfl) (d_op o_div (d_ix rfl (d_var 0 (pv 0)) d_int (fun _ _ => rfl)) d_int) (d_op o_mul (d_op o_mod (d_callT o_int (by rfl) T.b_int (by decide +kernel) (d_cons (d_ix rfl (d_var 0 (pv 0)) d_int (fun _ _ => rfl)) d_nil)) d_int) d_int)) d_nil)) (d_var 1 (pv 1))))))))
theorem ok_law_of (T : TX K mg) : FnOk PP w K mg base (L2.CX PP w) 2 T.f_law_of T.fd_law_of ["_law_bag_here", "_law_some"] (spF (gg K) 2 m_law_of) := by
  refine fun_ok fb_law_of T.F_law_of sc_law_of rfl rfl rfl fun cdv A outer s H E hr => ?_
  have takesE := takes_of (E := E) (X := cxOf (L2.CX PP w) PP w K mg base N_law_of "_law_of" (defScope s_law_of) T.f_law_of cdv A outer s H E) rfl rfl rfl rfl
  exact (s_one (s_ret (d_ix rfl (d_var 1 (pv 1)) (d_call (ok_law_take T) (hr.mono (by decide)) (by rfl) T.g_law_take T.F_law_take.kp (B_law_take T) .nil (fun _ => .nil) takesE (d_cons (d_var 0 (pv 0)) (d_cons (d_callB (o_len rfl) (by rfl) T.b_len PySem.boot_len (d_cons (d_var 1 (pv 1)) d_nil)) d_nil))) (fun _ _ => rfl))))
theorem ok_law_same (T : TX K mg) : ∀ n : Nat, FnOk PP w K mg base (L2.CX PP w) (1 + n) T.f_law_same T.fd_law_same ["_law_found", "_law_due_here"] (spF (gg K) 2 (m_law_same n))
  | 0 => fnok_bad _
  | n + 1 => by
    have ih := ok_law_same T n
    refine fun_ok (k := 1 + n) (fb_law_same (m_law_same n)) T.F_law_same sc_law_same rfl rfl rfl fun cdv A outer s H E hr => ?_
    have takesE := takes_of (E := E) (X := cxOf (L2.CX PP w) PP w K mg base N_law_same "_law_same" (defScope s_law_same) T.f_law_same cdv A outer s H E) rfl rfl rfl rfl
    exact (s_cons (s_if (PW.pt (w_or (t_cmp o_isN (d_var 1 (pv 1)) d_non (nomark _)) (w_or1 (t_cmp o_isN (d_var 0 (pv 0)) d_non (nomark _))))) (s_one (s_ret (d_and (d_cmp o_isN (d_var 1 (pv 1)) d_non (nomark _)) (d_one (d_cmp o_isN (d_var 0 (pv 0)) d_non (nomark _)))))) s_nil)
  (s_cons (s_if (t_val (d_isis rfl (.cons (T := .list) (by rfl) T.b_list (by decide +kernel) (by decide) (by decide) (by rfl) (.cons (T := .tuple) (by rfl) T.b_tuple (by decide +kernel) (by decide) (by decide) (by rfl) .nil)) (by decide) (by rfl) T.b_isinstance boot_isinstance (d_var 1 (pv 1)))) (s_cons (s_if (PW.pt (w_or (t_cmp (o_ne rfl (hu100 hr)) (d_isi (T := .list) rfl rfl (by rfl) T.b_list (by decide +kernel) (by rfl) T.b_isinstance boot_isinstance (d_var 0 (pv 0))) (d_isi (T := .list) rfl rfl (by rfl) T.b_list (by decide +kernel) (by rfl) T.b_isinstance boot_isinstance (d_var 1 (pv 1))) (nomark _)) (w_or1 (t_cmp (o_ne rfl (hu100 hr)) (d_isi (T := .tuple) rfl rfl (by rfl) T.b_tuple (by decide +kernel) (by rfl) T.b_isinstance boot_isinstance (d_var 0 (pv 0))) (d_isi (T := .tuple) rfl rfl (by rfl) T.b_tuple (by decide +kernel) (by rfl) T.b_isinstance boot_isinstance (d_var 1 (pv 1))) (nomark _))))) (s_one (s_ret d_bl)) s_nil)
  (s_one (s_ret (d_and (d_cmp (o_eq rfl (hu100 hr)) (d_callB (o_len rfl) (by rfl) T.b_len PySem.boot_len (d_cons (d_var 0 (pv 0)) d_nil)) (d_callB (o_len rfl) (by rfl) T.b_len PySem.boot_len (d_cons (d_var 1 (pv 1)) d_nil)) (nomark _)) (d_one (d_cmp (o_eq rfl (hu100 hr)) (d_lc (own := [("_law_k", 2)]) rfl sc_law_same.nd (i_r1 (by rfl) T.b_range (d_callB (o_len rfl) (by rfl) T.b_len PySem.boot_len (d_cons (d_var 1 (pv 1)) d_nil))) (blkOk_by (own := [("_law_k", 2)]) (N := N_law_same) (sc := defScope s_law_same) (by decide +kernel)) (fun _ _ _ _ _ => (g_name (i := 2) sc_law_same.nd rfl (Or.inl rfl))) (fun _ _ _ _ _ => (ts_one (t_not (t_val (d_call ih (hr.mono (by omega)) (by rfl) T.g_law_same T.F_law_same.kp (B_law_same T) .nil (fun _ => .nil) takes0 (d_cons (d_ix rfl (d_var 0 (pv 0)) (d_var 2 (pv 2)) (fun _ _ => rfl)) (d_cons (d_ix rfl (d_var 1 (pv 1)) (d_var 2 (pv 2)) (fun _ _ => rfl)) d_nil))))))) (fun _ _ _ _ _ => (d_var 2 (pv 2))) (by decide)) (d_lst d_nil) (nomark _))))))) s_nil)
  (s_cons (s_if (t_val (d_isi (T := .dict) rfl rfl (by rfl) T.b_dict (by decide +kernel) (by rfl) T.b_isinstance boot_isinstance (d_var 1 (pv 1)))) (s_one (s_ret (d_and (d_isi (T := .dict) rfl rfl (by rfl) T.b_dict (by decide +kernel) (by rfl) T.b_isinstance boot_isinstance (d_var 0 (pv 0))) (d_one (d_call ih (hr.mono (by omega)) (by rfl) T.g_law_same T.F_law_same.kp (B_law_same T) .nil (fun _ => .nil) takesE (d_cons (d_callT (o_list rfl) (by rfl) T.b_list (by decide +kernel) (d_cons d_bad d_nil)) (d_cons (d_callT (o_list rfl) (by rfl) T.b_list (by decide +kernel) (d_cons d_bad d_nil)) d_nil))))))) s_nil)
  (s_cons (s_if (PW.pt (w_or (t_cmp (o_ne rfl (hu100 hr)) (d_isi (T := .bool) rfl rfl (by rfl) T.b_bool (by decide +kernel) (by rfl) T.b_isinstance boot_isinstance (d_var 1 (pv 1))) (d_isi (T := .bool) rfl rfl (by rfl) T.b_bool (by decide +kernel) (by rfl) T.b_isinstance boot_isinstance (d_var 0 (pv 0))) (nomark _)) (w_or1 (t_cmp (o_ne rfl (hu100 hr)) (d_isi (T := .int) rfl rfl (by rfl) T.b_int (by decide +kernel) (by rfl) T.b_isinstance boot_isinstance (d_var 1 (pv 1))) (d_isi (T := .int) rfl rfl (by rfl) T.b_int (by decide +kernel) (by rfl) T.b_isinstance boot_isinstance (d_var 0 (pv 0))) (nomark _))))) (s_one (s_ret d_bl)) s_nil)
  (s_one (s_ret (d_and (d_cmp (o_eq rfl (hu100 hr)) (d_isi (T := .str) rfl rfl (by rfl) T.b_str (by decide +kernel) (by rfl) T.b_isinstance boot_isinstance (d_var 1 (pv 1))) (d_isi (T := .str) rfl rfl (by rfl) T.b_str (by decide +kernel) (by rfl) T.b_isinstance boot_isinstance (d_var 0 (pv 0))) (nomark _)) (d_one (d_cmp (o_eq rfl (hu100 hr)) (d_var 0 (pv 0)) (d_var 1 (pv 1)) (nomark _))))))))))
theorem ok_law_names (T : TX K mg) : FnOk PP w K mg base (L2.CX PP w) 3 T.f_law_names T.fd_law_names ["_law_bag_here", "_law_count", "_law_cap"] (spF (gg K) 3 m_law_names) := by
  refine fun_ok fb_law_names T.F_law_names sc_law_names rfl rfl rfl fun cdv A outer s H E hr => ?_
  have takesE := takes_of (E := E) (X := cxOf (L2.CX PP w) PP w K mg base N_law_names "_law_names" (defScope s_law_names) T.f_law_names cdv A outer s H E) rfl rfl rfl rfl
  exact (s_cons (s_set (i := 3) sc_law_names.nd rfl (Or.inr rfl) d_str)
  (s_cons (s_set (i := 4) sc_law_names.nd rfl (Or.inl rfl) (d_join d_str (d_lc (own := [("_law_k", 5)]) rfl sc_law_names.nd (i_r1 (by rfl) T.b_range (d_call (ok_law_take T) (hr.mono (by decide)) (by rfl) T.g_law_take T.F_law_take.kp (B_law_take T) .nil (fun _ => .nil) takesE (d_cons (d_var 0 (pv 0)) (d_cons (d_var 2 (pv 2)) d_nil)))) (blkOk_by (own := [("_law_k", 5)]) (N := N_law_names) (sc := defScope s_law_names) (by decide +kernel)) (fun _ _ _ _ _ => (g_name (i := 5) sc_law_names.nd rfl (Or.inl rfl))) (fun _ _ _ _ _ => ts_nil) (fun _ _ _ _ _ => (d_call (ok_law_of T) (hr.mono (by decide)) (by rfl) T.g_law_of T.F_law_of.kp (B_law_of T) .nil (fun _ => .nil) takes0 (d_cons (d_var 0 (pv 0)) (d_cons (d_var 3 (pv 3)) d_nil)))) (by decide))))
  (s_cons (s_par3 (i := 6) (j := 7) (l := 8) rfl sc_law_names.nd rfl rfl rfl (by decide) (by decide) (by decide) rfl rfl rfl (d_cons (d_call (ok_law_take T) (hr.mono (by decide)) (by rfl) T.g_law_take T.F_law_take.kp (B_law_take T) .nil (fun _ => .nil) takesE (d_cons (d_var 0 (pv 0)) (d_cons d_int d_nil))) (d_cons (d_call (ok_law_of T) (hr.mono (by decide)) (by rfl) T.g_law_of T.F_law_of.kp (B_law_of T) .nil (fun _ => .nil) takesE (d_cons (d_var 0 (pv 0)) (d_cons (d_lst (d_cons d_int (d_cons d_int (d_cons d_int (d_cons d_int (d_cons d_int (d_cons d_int d_nil))))))) d_nil))) (d_cons (d_lstM d_nil) d_nil))) (by rfl))
  (s_cons (s_for PassesOwn.leaving rfl (i_r1 (by rfl) T.b_range (d_var 1 (pv 1))) (g_name (i := 5) sc_law_names.nd rfl (Or.inl rfl)) (s_cons (s_set (i := 9) sc_law_names.nd rfl (Or.inl rfl) (d_join d_str (d_lc (own := [("_law_j", 10)]) rfl sc_law_names.nd (i_r1 (by rfl) T.b_range (d_call (ok_law_take T) (hr.mono (by decide)) (by rfl) T.g_law_take T.F_law_take.kp (B_law_take T) .nil (fun _ => .nil) takesE (d_cons (d_var 0 (pv 0)) (d_cons (d_op o_sub (d_var 2 (pv 2)) (d_callB (o_len rfl) (by rfl) T.b_len PySem.boot_len (d_cons (d_var 4 (pv 4)) d_nil))) d_nil)))) (blkOk_by (own := [("_law_j", 10)]) (N := N_law_names) (sc := defScope s_law_names) (by decide +kernel)) (fun _ _ _ _ _ => (g_name (i := 10) sc_law_names.nd rfl (Or.inl rfl))) (fun _ _ _ _ _ => ts_nil) (fun _ _ _ _ _ => (d_call (ok_law_of T) (hr.mono (by decide)) (by rfl) T.g_law_of T.F_law_of.kp (B_law_of T) .nil (fun _ => .nil) takes0 (d_cons (d_var 0 (pv 0)) (d_cons (d_var 3 (pv 3)) d_nil)))) (by decide))))
  (s_one (s_expr (d_append (d_var 8 (pv 8)) (d_op (o_add rfl) (d_op (o_add rfl) (d_var 4 (pv 4)) (d_ix rfl (d_var 3 (pv 3)) (d_op o_mod (d_callT o_int (by rfl) T.b_int (by decide +kernel) (d_cons (d_op (o_add rfl) (d_var 6 (pv 6)) (d_op o_mul (d_var 7 (pv 7)) (d_var 5 (pv 5)))) d_nil)) d_int) (fun _ _ => rfl))) (d_var 9 (pv 9))))))))
  (s_one (s_ret (d_frz (d_var 8 (pv 8)))))))))
theorem ok_law_parts (T : TX K mg) : FnW PP w K mg base 6 T.f_law_parts T.fd_law_parts ["_law_e"] (spF (gg K) 1 m_law_parts) := by
  refine funW_ok fb_law_parts T.F_law_parts sc_law_parts rfl rfl rfl fun cdv A outer s H E hr => ?_
  exact (s_cons (s_if (t_cmp (o_in rfl (hu200W hr)) (d_xattr T.X_code (d_var 0 (pv 0))) (d_tup (d_cons d_str (d_cons d_str (d_cons d_str d_nil)))) (by rfl)) (s_one (s_ret (d_tup (d_cons (d_xattr T.X_value (d_var 0 (pv 0))) d_nil)))) s_nil)
  (s_cons (s_if (t_cmp (o_in rfl (hu200W hr)) (d_xattr T.X_code (d_var 0 (pv 0))) (d_tup (d_cons d_str (d_cons d_str (d_cons d_str (d_cons d_str (d_cons d_str d_nil)))))) (by rfl)) (s_one (s_ret (d_tup (d_cons (d_xattr T.X_at (d_var 0 (pv 0))) d_nil)))) s_nil)
  (s_cons (s_if (t_cmp (o_in rfl (hu200W hr)) (d_xattr T.X_code (d_var 0 (pv 0))) (d_tup (d_cons d_str (d_cons d_str (d_cons d_str d_nil)))) (by rfl)) (s_one (s_ret (d_tup (d_cons (d_xattr T.X_name (d_var 0 (pv 0))) d_nil)))) s_nil)
  (s_cons (s_if (t_cmp (o_eq rfl (hu100W hr)) (d_xattr T.X_code (d_var 0 (pv 0))) d_str (nomark _)) (s_one (s_ret (d_tup (d_cons (d_xattr T.X_standing (d_var 0 (pv 0))) d_nil)))) s_nil)
  (s_cons (s_if (t_cmp (o_eq rfl (hu100W hr)) (d_xattr T.X_code (d_var 0 (pv 0))) d_str (nomark _)) (s_one (s_ret (d_tup (d_cons (d_xattr T.X_line (d_var 0 (pv 0))) (d_cons (d_xattr T.X_why (d_var 0 (pv 0))) d_nil))))) s_nil)
  (s_one (s_ret (d_if (t_cmp (o_eq rfl (hu100W hr)) (d_xattr T.X_code (d_var 0 (pv 0))) d_str (nomark _)) (d_tup (d_cons (d_xattr T.X_most (d_var 0 (pv 0))) d_nil)) (d_if (t_cmp (o_eq rfl (hu100W hr)) (d_xattr T.X_code (d_var 0 (pv 0))) d_str (nomark _)) (d_tup (d_cons (d_xattr T.X_key (d_var 0 (pv 0))) d_nil)) (d_tup d_nil))))))))))
theorem ok_law_try (T : TX K mg) (_ : TBs K mg base) : TryC PP w K mg base (gg K) 6 7 T.f_law_try m_law_try := by
  refine try_does (k := 6) T.F_law_try sc_law_try (B_law_try T) rfl (.inl rfl) (by decide) (by decide) rfl (by decide) T.gc_StandError rfl (by decide) T.gc_Missing T.x_caught fun cdv A outer s H e pn hr => ?_
  exact (s_one (s_ret (d_op (o_add rfl) (d_tup (d_cons (d_xattr T.X_code (d_var 1 (pv 1))) d_nil)) (d_callW (ok_law_parts T) (roomH_of' hr (by decide)) (by rfl) T.g_law_parts T.F_law_parts.kp (B_law_parts T) (d_cons (d_var 1 (pv 1)) d_nil)))))
theorem ok_law_why (T : TX K mg) (TB : TBs K mg base) : TryC PP w K mg base (gg K) 6 8 T.f_law_why m_law_why := by
  refine why_does T.F_law_why (ok_law_try T TB) sc_law_why (B_law_why T) rfl (.inl rfl) (by decide) (by decide) rfl (by decide) T.g_law_try T.F_law_try.kp fun cdv A outer s H hr => ?_
  exact (s_one (s_ret (d_if (t_cmp (o_eq rfl (hu100 hr)) (d_ix rfl (d_var 1 (pv 1)) d_int (fun _ _ => rfl)) d_str (nomark _)) (d_tup d_nil) (d_var 1 (pv 1)))))
theorem ok_law_is_count (T : TX K mg) : FnOk PP w K mg base (L2.CX PP w) 1 T.f_law_is_count T.fd_law_is_count ["_law_thing", "_law_low", "_law_high"] (spF (gg K) 3 m_law_is_count) := by
  refine fun_ok fb_law_is_count T.F_law_is_count sc_law_is_count rfl rfl rfl fun cdv A outer s H E hr => ?_
  have takesE := takes_of (E := E) (X := cxOf (L2.CX PP w) PP w K mg base N_law_is_count "_law_is_count" (defScope s_law_is_count) T.f_law_is_count cdv A outer s H E) rfl rfl rfl rfl
  exact (s_one (s_ret (d_and (d_isi (T := .int) rfl rfl (by rfl) T.b_int (by decide +kernel) (by rfl) T.b_isinstance boot_isinstance (d_var 0 (pv 0))) (d_and (d_not (d_isi (T := .bool) rfl rfl (by rfl) T.b_bool (by decide +kernel) (by rfl) T.b_isinstance boot_isinstance (d_var 0 (pv 0)))) (d_and (d_cmp o_le (d_var 1 (pv 1)) (d_var 0 (pv 0)) (nomark _)) (d_one (d_cmp o_le (d_var 0 (pv 0)) (d_var 2 (pv 2)) (nomark _))))))))
theorem ok_law_is_call (T : TX K mg) : FnOk PP w K mg base (L2.CX PP w) 2 T.f_law_is_call T.fd_law_is_call ["_law_thing"] (spF (gg K) 1 m_law_is_call) := by
  refine fun_ok fb_law_is_call T.F_law_is_call sc_law_is_call rfl rfl rfl fun cdv A outer s H E hr => ?_
  have takesE := takes_of (E := E) (X := cxOf (L2.CX PP w) PP w K mg base N_law_is_call "_law_is_call" (defScope s_law_is_call) T.f_law_is_call cdv A outer s H E) rfl rfl rfl rfl
  exact (s_cons (s_if (PW.pt (w_or (t_not (t_val (d_isi (T := .str) rfl rfl (by rfl) T.b_str (by decide +kernel) (by rfl) T.b_isinstance boot_isinstance (d_var 0 (pv 0))))) (w_or1 (t_not (t_val (d_call (ok_law_is_count T) (hr.mono (by decide)) (by rfl) T.g_law_is_count T.F_law_is_count.kp (B_law_is_count T) .nil (fun _ => .nil) takesE (d_cons (d_callB (o_len rfl) (by rfl) T.b_len PySem.boot_len (d_cons (d_var 0 (pv 0)) d_nil)) (d_cons d_int (d_cons d_int d_nil))))))))) (s_one (s_ret d_bl)) s_nil)
  (s_one (s_ret (d_cmp (o_eq rfl (hu100 hr)) (d_lc (own := [("_law_sign", 1)]) rfl sc_law_is_call.nd (i_any rfl (d_var 0 (pv 0))) (blkOk_by (own := [("_law_sign", 1)]) (N := N_law_is_call) (sc := defScope s_law_is_call) (by decide +kernel)) (fun _ _ _ _ _ => (g_name (i := 1) sc_law_is_call.nd rfl (Or.inl rfl))) (fun _ _ _ _ _ => (ts_one (t_cmp (o_notIn rfl (hu200 hr)) (d_var 1 (pv 1)) d_str (by rfl)))) (fun _ _ _ _ _ => (d_var 1 (pv 1))) (by decide)) (d_lst d_nil) (nomark _)))))
theorem ok_law_is_spot (T : TX K mg) : FnOk PP w K mg base (L2.CX PP w) 3 T.f_law_is_spot T.fd_law_is_spot ["_law_thing"] (spF (gg K) 1 m_law_is_spot) := by
  refine fun_ok fb_law_is_spot T.F_law_is_spot sc_law_is_spot rfl rfl rfl fun cdv A outer s H E hr => ?_
  have takesE := takes_of (E := E) (X := cxOf (L2.CX PP w) PP w K mg base N_law_is_spot "_law_is_spot" (defScope s_law_is_spot) T.f_law_is_spot cdv A outer s H E) rfl rfl rfl rfl
  exact (s_one (s_ret (d_and (d_isi (T := .tuple) rfl rfl (by rfl) T.b_tuple (by decide +kernel) (by rfl) T.b_isinstance boot_isinstance (d_var 0 (pv 0))) (d_and (d_cmp (o_eq rfl (hu100 hr)) (d_callB (o_len rfl) (by rfl) T.b_len PySem.boot_len (d_cons (d_var 0 (pv 0)) d_nil)) d_int (nomark _)) (d_and (d_call (ok_law_is_call T) (hr.mono (by decide)) (by rfl) T.g_law_is_call T.F_law_is_call.kp (B_law_is_call T) .nil (fun _ => .nil) takesE (d_cons (d_ix rfl (d_var 0 (pv 0)) d_int (fun _ _ => rfl)) d_nil)) (d_one (d_call (ok_law_is_count T) (hr.mono (by decide)) (by rfl) T.g_law_is_count T.F_law_is_count.kp (B_law_is_count T) .nil (fun _ => .nil) takesE (d_cons (d_ix rfl (d_var 0 (pv 0)) d_int (fun _ _ => rfl)) (d_cons d_int (d_cons d_int d_nil))))))))))
theorem ok_law_due (T : TX K mg) : FnOk PP w K mg base (L2.CX PP w) 4 T.f_law_due T.fd_law_due ["_law_row"] (spF (gg K) 1 m_law_due) := by
  refine fun_ok fb_law_due T.F_law_due sc_law_due rfl rfl rfl fun cdv A outer s H E hr => ?_
  have takesE := takes_of (E := E) (X := cxOf (L2.CX PP w) PP w K mg base N_law_due "_law_due" (defScope s_law_due) T.f_law_due cdv A outer s H E) rfl rfl rfl rfl
  exact (s_cons (s_asg (d_var 0 (pv 0)) (g_tup rfl rfl (gs_cons (g_name (i := 2) sc_law_due.nd rfl (Or.inl rfl)) (gs_cons (g_name (i := 3) sc_law_due.nd rfl (Or.inl rfl)) (gs_cons (g_name (i := 4) sc_law_due.nd rfl (Or.inl rfl)) (gs_cons (g_name (i := 5) sc_law_due.nd rfl (Or.inl rfl)) (gs_cons (g_name (i := 6) sc_law_due.nd rfl (Or.inl rfl)) (gs_cons (g_name (i := 7) sc_law_due.nd rfl (Or.inl rfl)) (gs_cons (g_name (i := 8) sc_law_due.nd rfl (Or.inl rfl)) (gs_cons (g_name (i := 9) sc_law_due.nd rfl (Or.inl rfl)) gs_nil))))))))))
  (s_cons (s_for PassesOwn.leaving rfl (i_any rfl (d_tup (d_cons (d_var 3 (pv 3)) (d_cons (d_var 4 (pv 4)) d_nil)))) (g_name (i := 1) sc_law_due.nd rfl (Or.inl rfl)) (s_one (s_if (t_not (t_val (d_call (ok_law_is_call T) (hr.mono (by decide)) (by rfl) T.g_law_is_call T.F_law_is_call.kp (B_law_is_call T) .nil (fun _ => .nil) takesE (d_cons (d_var 1 (pv 1)) d_nil)))) (s_one (s_ret (d_tup (d_cons d_str (d_cons (d_var 1 (pv 1)) d_nil))))) s_nil)))
  (s_cons (s_if (PW.pt (w_and (t_cmp (o_eq rfl (hu100 hr)) (d_var 2 (pv 2)) d_str (nomark _)) (w_and1 (t_not (t_val (d_call (ok_law_is_spot T) (hr.mono (by decide)) (by rfl) T.g_law_is_spot T.F_law_is_spot.kp (B_law_is_spot T) .nil (fun _ => .nil) takesE (d_cons (d_var 6 (pv 6)) d_nil))))))) (s_one (s_ret (d_tup (d_cons d_str (d_cons (d_var 6 (pv 6)) d_nil))))) s_nil)
  (s_cons (s_if (PW.pt (w_or (t_not (t_val (d_call (ok_law_is_spot T) (hr.mono (by decide)) (by rfl) T.g_law_is_spot T.F_law_is_spot.kp (B_law_is_spot T) .nil (fun _ => .nil) takesE (d_cons (d_var 7 (pv 7)) d_nil)))) (w_or1 (PW.pt (w_and (t_cmp (o_eq rfl (hu100 hr)) (d_var 2 (pv 2)) d_str (nomark _)) (w_and1 (t_cmp o_le (d_ix rfl (d_var 7 (pv 7)) d_int (fun _ _ => rfl)) (d_ix rfl (d_var 6 (pv 6)) d_int (fun _ _ => rfl)) (nomark _)))))))) (s_one (s_ret (d_tup (d_cons d_str (d_cons (d_var 7 (pv 7)) d_nil))))) s_nil)
  (s_cons (s_for PassesOwn.leaving rfl (i_any rfl (d_tup (d_cons (d_tup (d_cons (d_var 8 (pv 8)) (d_cons d_int (d_cons d_int d_nil)))) (d_cons (d_tup (d_cons (d_var 9 (pv 9)) (d_cons d_int (d_cons d_int d_nil)))) (d_cons (d_tup (d_cons (d_var 5 (pv 5)) (d_cons d_int (d_cons d_int d_nil)))) d_nil))))) (g_tup rfl rfl (gs_cons (g_name (i := 1) sc_law_due.nd rfl (Or.inl rfl)) (gs_cons (g_name (i := 10) sc_law_due.nd rfl (Or.inl rfl)) (gs_cons (g_name (i := 11) sc_law_due.nd rfl (Or.inl rfl)) gs_nil)))) (s_one (s_if (t_not (t_val (d_call (ok_law_is_count T) (hr.mono (by decide)) (by rfl) T.g_law_is_count T.F_law_is_count.kp (B_law_is_count T) .nil (fun _ => .nil) takesE (d_cons (d_var 1 (pv 1)) (d_cons (d_var 10 (pv 10)) (d_cons (d_var 11 (pv 11)) d_nil)))))) (s_one (s_ret (d_tup (d_cons d_str (d_cons (d_var 1 (pv 1)) d_nil))))) s_nil)))
  (s_one (s_ret (d_tup d_nil))))))))
theorem ok_law_good (T : TX K mg) : FnOk PP w K mg base (L2.CX PP w) 3 T.f_law_good T.fd_law_good ["_law_bag_here", "_law_calls"] (spF (gg K) 2 m_law_good) := by
  refine fun_ok fb_law_good T.F_law_good sc_law_good rfl rfl rfl fun cdv A outer s H E hr => ?_
  have takesE := takes_of (E := E) (X := cxOf (L2.CX PP w) PP w K mg base N_law_good "_law_good" (defScope s_law_good) T.f_law_good cdv A outer s H E) rfl rfl rfl rfl
  exact (s_cons (s_set (i := 2) sc_law_good.nd rfl (Or.inl rfl) (d_call (ok_law_of T) (hr.mono (by decide)) (by rfl) T.g_law_of T.F_law_of.kp (B_law_of T) .nil (fun _ => .nil) takesE (d_cons (d_var 0 (pv 0)) (d_cons (d_lst (d_cons d_int (d_cons d_int (d_cons d_int d_nil)))) d_nil))))
  (s_cons (s_set (i := 3) sc_law_good.nd rfl (Or.inl rfl) (d_call (ok_law_of T) (hr.mono (by decide)) (by rfl) T.g_law_of T.F_law_of.kp (B_law_of T) .nil (fun _ => .nil) takesE (d_cons (d_var 0 (pv 0)) (d_cons (d_lst (d_cons (d_op (o_add rfl) (d_var 2 (pv 2)) d_int) (d_cons d_int d_nil))) d_nil))))
  (s_cons (s_par2 (i := 4) (j := 5) rfl sc_law_good.nd rfl rfl (by decide) rfl rfl (d_cons (d_call (ok_law_of T) (hr.mono (by decide)) (by rfl) T.g_law_of T.F_law_of.kp (B_law_of T) .nil (fun _ => .nil) takesE (d_cons (d_var 0 (pv 0)) (d_cons (d_lst (d_cons d_str (d_cons d_str (d_cons d_str d_nil)))) d_nil))) (d_cons (d_call (ok_law_of T) (hr.mono (by decide)) (by rfl) T.g_law_of T.F_law_of.kp (B_law_of T) .nil (fun _ => .nil) takesE (d_cons (d_var 0 (pv 0)) (d_cons (d_lst (d_cons d_int (d_cons d_int (d_cons d_int d_nil)))) d_nil))) d_nil)) (by rfl))
  (s_cons (s_par2 (i := 6) (j := 7) rfl sc_law_good.nd rfl rfl (by decide) rfl rfl (d_cons (d_tup (d_cons (d_call (ok_law_of T) (hr.mono (by decide)) (by rfl) T.g_law_of T.F_law_of.kp (B_law_of T) .nil (fun _ => .nil) takesE (d_cons (d_var 0 (pv 0)) (d_cons (d_var 1 (pv 1)) d_nil))) (d_cons (d_var 2 (pv 2)) d_nil))) (d_cons (d_tup (d_cons (d_call (ok_law_of T) (hr.mono (by decide)) (by rfl) T.g_law_of T.F_law_of.kp (B_law_of T) .nil (fun _ => .nil) takesE (d_cons (d_var 0 (pv 0)) (d_cons (d_var 1 (pv 1)) d_nil))) (d_cons (d_if (t_cmp (o_eq rfl (hu100 hr)) (d_var 4 (pv 4)) d_str (nomark _)) (d_var 3 (pv 3)) (d_call (ok_law_of T) (hr.mono (by decide)) (by rfl) T.g_law_of T.F_law_of.kp (B_law_of T) .nil (fun _ => .nil) takesE (d_cons (d_var 0 (pv 0)) (d_cons (d_lst (d_cons d_int (d_cons d_int (d_cons d_int d_nil)))) d_nil)))) d_nil))) d_nil)) (by rfl))
  (s_cons (s_par2 (i := 8) (j := 9) rfl sc_law_good.nd rfl rfl (by decide) rfl rfl (d_cons (d_call (ok_law_of T) (hr.mono (by decide)) (by rfl) T.g_law_of T.F_law_of.kp (B_law_of T) .nil (fun _ => .nil) takesE (d_cons (d_var 0 (pv 0)) (d_cons (d_lst (d_cons d_int (d_cons d_int (d_cons d_int d_nil)))) d_nil))) (d_cons (d_call (ok_law_of T) (hr.mono (by decide)) (by rfl) T.g_law_of T.F_law_of.kp (B_law_of T) .nil (fun _ => .nil) takesE (d_cons (d_var 0 (pv 0)) (d_cons (d_lst (d_cons d_int (d_cons d_int (d_cons d_int d_nil)))) d_nil))) d_nil)) (by rfl))
  (s_one (s_ret (d_tup (d_cons (d_var 4 (pv 4)) (d_cons (d_call (ok_law_of T) (hr.mono (by decide)) (by rfl) T.g_law_of T.F_law_of.kp (B_law_of T) .nil (fun _ => .nil) takesE (d_cons (d_var 0 (pv 0)) (d_cons (d_var 1 (pv 1)) d_nil))) (d_cons (d_call (ok_law_of T) (hr.mono (by decide)) (by rfl) T.g_law_of T.F_law_of.kp (B_law_of T) .nil (fun _ => .nil) takesE (d_cons (d_var 0 (pv 0)) (d_cons (d_var 1 (pv 1)) d_nil))) (d_cons (d_var 5 (pv 5)) (d_cons (d_if (t_cmp (o_eq rfl (hu100 hr)) (d_var 4 (pv 4)) d_str (nomark _)) (d_var 6 (pv 6)) (d_tup d_nil)) (d_cons (d_var 7 (pv 7)) (d_cons (d_var 8 (pv 8)) (d_cons (d_var 9 (pv 9)) d_nil))))))))))))))))
theorem ok_law_bad (T : TX K mg) : FnOk PP w K mg base (L2.CX PP w) 3 T.f_law_bad T.fd_law_bad ["_law_bag_here", "_law_row", "_law_at"] (spF (gg K) 3 m_law_bad) := by
  refine fun_ok fb_law_bad T.F_law_bad sc_law_bad rfl rfl rfl fun cdv A outer s H E hr => ?_
  have takesE := takes_of (E := E) (X := cxOf (L2.CX PP w) PP w K mg base N_law_bad "_law_bad" (defScope s_law_bad) T.f_law_bad cdv A outer s H E) rfl rfl rfl rfl
  exact (s_cons (s_if (t_cmp (o_in rfl (hu200 hr)) (d_var 2 (pv 2)) (d_tup (d_cons d_int (d_cons d_int d_nil))) (by rfl)) (s_one (s_ret (d_call (ok_law_of T) (hr.mono (by decide)) (by rfl) T.g_law_of T.F_law_of.kp (B_law_of T) .nil (fun _ => .nil) takesE (d_cons (d_var 0 (pv 0)) (d_cons (d_lst (d_cons d_str (d_cons d_str (d_cons d_str (d_cons d_str (d_cons d_str (d_cons d_non (d_cons d_bl (d_cons d_int (d_cons (d_tup (d_cons d_str d_nil)) (d_cons (d_lst (d_cons d_str d_nil)) (d_cons d_str d_nil)))))))))))) d_nil))))) s_nil)
  (s_cons (s_if (t_cmp (o_in rfl (hu200 hr)) (d_var 2 (pv 2)) (d_tup (d_cons d_int (d_cons d_int d_nil))) (by rfl)) (s_cons (s_set (i := 3) sc_law_bad.nd rfl (Or.inl rfl) (d_if (PW.pt (w_and (t_val (d_isi (T := .tuple) rfl rfl (by rfl) T.b_tuple (by decide +kernel) (by rfl) T.b_isinstance boot_isinstance (d_ix rfl (d_var 1 (pv 1)) d_int (fun _ _ => rfl)))) (w_and (t_cmp (o_eq rfl (hu100 hr)) (d_callB (o_len rfl) (by rfl) T.b_len PySem.boot_len (d_cons (d_ix rfl (d_var 1 (pv 1)) d_int (fun _ _ => rfl)) d_nil)) d_int (nomark _)) (w_and1 (t_val (d_call (ok_law_is_count T) (hr.mono (by decide)) (by rfl) T.g_law_is_count T.F_law_is_count.kp (B_law_is_count T) .nil (fun _ => .nil) takesE (d_cons (d_ix rfl (d_ix rfl (d_var 1 (pv 1)) d_int (fun _ _ => rfl)) d_int (fun _ _ => rfl)) (d_cons d_int (d_cons d_int d_nil))))))))) (d_ix rfl (d_ix rfl (d_var 1 (pv 1)) d_int (fun _ _ => rfl)) d_int (fun _ _ => rfl)) d_int))
  (s_cons (s_set (i := 4) sc_law_bad.nd rfl (Or.inl rfl) (d_lst (d_cons (d_tup d_nil) (d_cons (d_tup (d_cons d_str d_nil)) (d_cons (d_tup (d_cons d_str (d_cons d_int d_nil))) (d_cons (d_tup (d_cons d_str (d_cons (d_op o_sub d_int d_int) d_nil))) (d_cons (d_tup (d_cons d_str (d_cons d_bl d_nil))) (d_cons (d_tup (d_cons d_str (d_cons d_int d_nil))) (d_cons (d_lst (d_cons d_str (d_cons d_int d_nil))) (d_cons d_str (d_cons d_non (d_cons (d_tup (d_cons d_str (d_cons d_str d_nil))) (d_cons (d_tup (d_cons d_str (d_cons d_int (d_cons d_int d_nil)))) d_nil)))))))))))))
  (s_one (s_ret (d_call (ok_law_of T) (hr.mono (by decide)) (by rfl) T.g_law_of T.F_law_of.kp (B_law_of T) .nil (fun _ => .nil) takesE (d_cons (d_var 0 (pv 0)) (d_cons (d_op (o_add rfl) (d_var 4 (pv 4)) (d_lst (d_cons (d_tup (d_cons d_str (d_cons (d_var 3 (pv 3)) d_nil))) (d_cons (d_tup (d_cons d_str (d_cons (d_var 3 (pv 3)) d_nil))) (d_cons (d_tup (d_cons d_str (d_cons (d_if (t_cmp o_gt (d_var 3 (pv 3)) d_int (nomark _)) (d_op o_sub (d_var 3 (pv 3)) d_int) d_int) d_nil))) (d_cons (d_tup (d_cons d_str (d_cons d_int d_nil))) d_nil)))))) d_nil))))))) s_nil)
  (s_one (s_ret (d_call (ok_law_of T) (hr.mono (by decide)) (by rfl) T.g_law_of T.F_law_of.kp (B_law_of T) .nil (fun _ => .nil) takesE (d_cons (d_var 0 (pv 0)) (d_cons (d_lst (d_cons (d_op o_sub d_int d_int) (d_cons d_int (d_cons d_int (d_cons d_int (d_cons d_int (d_cons d_int (d_cons d_bl (d_cons d_bl (d_cons d_non (d_cons d_str (d_cons (d_lst (d_cons d_int d_nil)) (d_cons (d_tup (d_cons d_int d_nil)) (d_cons (d_op o_pow d_int d_int) d_nil)))))))))))))) d_nil)))))))
theorem ok_law_asked (T : TX K mg) (TB : TBs K mg base) : FnOk PP w K mg base (L2.CX PP w) 9 T.f_law_asked T.fd_law_asked ["_law_bag_here", "_law_row"] (spF (gg K) 2 m_law_asked) := by
  refine fun_okC (p := ("_law_asked", none)) fb_law_asked T.F_law_asked T.a_law_asked sc_law_asked rfl rfl rfl fun cdv hcd A outer s H E hr => ?_
  have takesE := takes_of (E := E) (X := cxOf (L2.CX PP w) PP w K mg base N_law_asked "_law_asked" (defScope s_law_asked) T.f_law_asked cdv A outer s H E) rfl rfl rfl rfl
  exact (s_cons (s_asg (d_var 1 (pv 1)) (g_tup rfl rfl (gs_cons (g_name (i := 2) sc_law_asked.nd rfl (Or.inl rfl)) (gs_cons (g_name (i := 3) sc_law_asked.nd rfl (Or.inr rfl)) (gs_cons (g_name (i := 4) sc_law_asked.nd rfl (Or.inr rfl)) (gs_cons (g_name (i := 5) sc_law_asked.nd rfl (Or.inr rfl)) (gs_cons (g_name (i := 6) sc_law_asked.nd rfl (Or.inr rfl)) (gs_cons (g_name (i := 7) sc_law_asked.nd rfl (Or.inr rfl)) (gs_cons (g_name (i := 8) sc_law_asked.nd rfl (Or.inr rfl)) (gs_cons (g_name (i := 9) sc_law_asked.nd rfl (Or.inr rfl)) gs_nil))))))))))
  (s_cons (s_if (t_cmp (o_eq rfl (hu100 hr)) (d_var 2 (pv 2)) d_str (nomark _)) (s_cons (s_if (t_cmp (o_eq rfl (hu100 hr)) (d_call (ok_law_take T) (hr.mono (by decide)) (by rfl) T.g_law_take T.F_law_take.kp (B_law_take T) .nil (fun _ => .nil) takesE (d_cons (d_var 0 (pv 0)) (d_cons d_int d_nil))) d_int (nomark _)) (s_one (s_ret (d_lam (k := 5) (kt := 8) (q := lq0) (by rfl) T.g_law_why T.F_law_why.kp (ok_law_why T TB) (TB _ (List.mem_map.mpr ⟨("_law_asked", none), by decide, rfl⟩)) hcd rfl (by first | exact List.mem_cons_self | decide) tu0 (hr.mono (by decide)) (LamX.lamS_by (sc := defScope s_law_asked) (by decide +kernel)) rfl (fun _ _ _ _ _ => rfl) (fun A outer s H E f c' hr => (d_make (n := 6) (ks := ["rank"]) (hC_Work) T.K_Work (ok_Work_init T) (hr.mono (by decide)) (by rfl) T.gc_Work (kb_Work_init_0 T) kr_Work_init_0 (takes_of (E := E) rfl rfl rfl rfl) (d_cons (d_var 3 (pv 3)) (d_cons (d_var 4 (pv 4)) (d_cons (d_var 6 (pv 6)) (d_cons (d_var 7 (pv 7)) (d_cons (d_var 8 (pv 8)) (d_cons (d_var 9 (pv 9)) d_nil)))))) (dk_cons (d_var 5 (pv 5)) dk_nil)))))) s_nil)
  (s_one (s_ret (d_lam (k := 5) (kt := 8) (q := lq0) (by rfl) T.g_law_why T.F_law_why.kp (ok_law_why T TB) (TB _ (List.mem_map.mpr ⟨("_law_asked", none), by decide, rfl⟩)) hcd rfl (by first | exact List.mem_cons_self | decide) tu0 (hr.mono (by decide)) (LamX.lamS_by (sc := defScope s_law_asked) (by decide +kernel)) rfl (fun _ _ _ _ _ => rfl) (fun A outer s H E f c' hr => (d_make0 (ks := ["rank", "price", "crews", "end", "start", "owner", "name"]) (hC_Work) T.K_Work (ok_Work_init T) (hr.mono (by decide)) (by rfl) T.gc_Work (kb_Work_init_1 T) kr_Work_init_1 (takes_of (E := E) rfl rfl rfl rfl) (dk_cons (d_var 5 (pv 5)) (dk_cons (d_var 9 (pv 9)) (dk_cons (d_var 8 (pv 8)) (dk_cons (d_var 7 (pv 7)) (dk_cons (d_var 6 (pv 6)) (dk_cons (d_var 4 (pv 4)) (dk_cons (d_var 3 (pv 3)) dk_nil))))))))))))) s_nil)
  (s_cons (s_if (t_cmp (o_eq rfl (hu100 hr)) (d_call (ok_law_take T) (hr.mono (by decide)) (by rfl) T.g_law_take T.F_law_take.kp (B_law_take T) .nil (fun _ => .nil) takesE (d_cons (d_var 0 (pv 0)) (d_cons d_int d_nil))) d_int (nomark _)) (s_one (s_ret (d_lam (k := 5) (kt := 8) (q := lq0) (by rfl) T.g_law_why T.F_law_why.kp (ok_law_why T TB) (TB _ (List.mem_map.mpr ⟨("_law_asked", none), by decide, rfl⟩)) hcd rfl (by first | exact List.mem_cons_self | decide) tu0 (hr.mono (by decide)) (LamX.lamS_by (sc := defScope s_law_asked) (by decide +kernel)) rfl (fun _ _ _ _ _ => rfl) (fun A outer s H E f c' hr => (d_make (n := 5) (ks := ["rank"]) (hC_Hire) T.K_Hire (ok_Hire_init T) (hr.mono (by decide)) (by rfl) T.gc_Hire (kb_Hire_init_2 T) kr_Hire_init_2 (takes_of (E := E) rfl rfl rfl rfl) (d_cons (d_var 3 (pv 3)) (d_cons (d_var 4 (pv 4)) (d_cons (d_var 7 (pv 7)) (d_cons (d_var 8 (pv 8)) (d_cons (d_var 9 (pv 9)) d_nil))))) (dk_cons (d_var 5 (pv 5)) dk_nil)))))) s_nil)
  (s_one (s_ret (d_lam (k := 5) (kt := 8) (q := lq0) (by rfl) T.g_law_why T.F_law_why.kp (ok_law_why T TB) (TB _ (List.mem_map.mpr ⟨("_law_asked", none), by decide, rfl⟩)) hcd rfl (by first | exact List.mem_cons_self | decide) tu0 (hr.mono (by decide)) (LamX.lamS_by (sc := defScope s_law_asked) (by decide +kernel)) rfl (fun _ _ _ _ _ => rfl) (fun A outer s H E f c' hr => (d_make0 (ks := ["rank", "price", "crews", "end", "owner", "name"]) (hC_Hire) T.K_Hire (ok_Hire_init T) (hr.mono (by decide)) (by rfl) T.gc_Hire (kb_Hire_init_3 T) kr_Hire_init_3 (takes_of (E := E) rfl rfl rfl rfl) (dk_cons (d_var 5 (pv 5)) (dk_cons (d_var 9 (pv 9)) (dk_cons (d_var 8 (pv 8)) (dk_cons (d_var 7 (pv 7)) (dk_cons (d_var 4 (pv 4)) (dk_cons (d_var 3 (pv 3)) dk_nil))))))))))))))
theorem ok_law (T : TX K mg) (TB : TBs K mg base) : FnOk PP w K mg base (L2.CX PP w) 10 T.f_law T.fd_law ["_law_script"] (spF (gg K) 1 m_law) := by
  refine fun_ok fb_law T.F_law sc_law rfl rfl rfl fun cdv A outer s H E hr => ?_
  have takesE := takes_of (E := E) (X := cxOf (L2.CX PP w) PP w K mg base N_law "law" (defScope s_law) T.f_law cdv A outer s H E) rfl rfl rfl rfl
  exact (s_cons (s_set (i := 1) sc_law.nd rfl (Or.inl rfl) (d_call (ok_law_bag T) (hr.mono (by decide)) (by rfl) T.g_law_bag T.F_law_bag.kp (B_law_bag T) .nil (fun _ => .nil) takesE (d_cons (d_var 0 (pv 0)) d_nil)))
  (s_cons (s_for PassesOwn.leaving rfl (i_r1 (by rfl) T.b_range d_int) (g_name (i := 2) sc_law.nd rfl (Or.inl rfl)) (s_cons (s_set (i := 3) sc_law.nd rfl (Or.inl rfl) (d_call (ok_law_good T) (hr.mono (by decide)) (by rfl) T.g_law_good T.F_law_good.kp (B_law_good T) .nil (fun _ => .nil) takesE (d_cons (d_var 1 (pv 1)) (d_cons (d_callD (ks := []) (ok_law_names T) (hr.mono (by decide)) (by rfl) T.g_law_names T.F_law_names.kp (kb_law_names_4 T) kr_law_names_4 takesE (d_cons (d_var 1 (pv 1)) (d_cons d_int d_nil)) dk_nil) d_nil))))
  (s_cons (s_if (t_not (t_val (d_call (ok_law_same T 6) (hr.mono (by decide)) (by rfl) T.g_law_same T.F_law_same.kp (B_law_same T) .nil (fun _ => .nil) takesE (d_cons (d_call (ok_law_asked T TB) (hr.mono (by decide)) (by rfl) T.g_law_asked T.F_law_asked.kp (B_law_asked T) .nil (fun _ => .nil) takesE (d_cons (d_var 1 (pv 1)) (d_cons (d_var 3 (pv 3)) d_nil))) (d_cons (d_tup d_nil) d_nil))))) (s_one (s_ret d_bl)) s_nil)
  (s_one (s_for PassesOwn.leaving rfl (i_r1 (by rfl) T.b_range (d_op (o_add rfl) d_int (d_call (ok_law_take T) (hr.mono (by decide)) (by rfl) T.g_law_take T.F_law_take.kp (B_law_take T) .nil (fun _ => .nil) takesE (d_cons (d_var 1 (pv 1)) (d_cons d_int d_nil))))) (g_name (i := 4) sc_law.nd rfl (Or.inl rfl)) (s_cons (s_set (i := 5) sc_law.nd rfl (Or.inl rfl) (d_call (ok_law_of T) (hr.mono (by decide)) (by rfl) T.g_law_of T.F_law_of.kp (B_law_of T) .nil (fun _ => .nil) takesE (d_cons (d_var 1 (pv 1)) (d_cons (d_op (o_add rfl) (d_lst (d_cons d_int (d_cons d_int (d_cons d_int (d_cons d_int (d_cons d_int (d_cons d_int (d_cons d_int d_nil)))))))) (d_if (t_cmp (o_eq rfl (hu100 hr)) (d_ix rfl (d_var 3 (pv 3)) d_int (fun _ _ => rfl)) d_str (nomark _)) (d_lst (d_cons d_int (d_cons d_int d_nil))) (d_lst d_nil))) d_nil))))
  (s_cons (s_set (i := 3) sc_law.nd rfl (Or.inl rfl) (d_op (o_add rfl) (d_op (o_add rfl) (d_sl rfl (d_var 3 (pv 3)) o_no (o_so (d_var 5 (pv 5)))) (d_tup (d_cons (d_call (ok_law_bad T) (hr.mono (by decide)) (by rfl) T.g_law_bad T.F_law_bad.kp (B_law_bad T) .nil (fun _ => .nil) takesE (d_cons (d_var 1 (pv 1)) (d_cons (d_var 3 (pv 3)) (d_cons (d_var 5 (pv 5)) d_nil)))) d_nil))) (d_sl rfl (d_var 3 (pv 3)) (o_so (d_op (o_add rfl) (d_var 5 (pv 5)) d_int)) o_no)))
  (s_one (s_if (t_not (t_val (d_call (ok_law_same T 6) (hr.mono (by decide)) (by rfl) T.g_law_same T.F_law_same.kp (B_law_same T) .nil (fun _ => .nil) takesE (d_cons (d_call (ok_law_asked T TB) (hr.mono (by decide)) (by rfl) T.g_law_asked T.F_law_asked.kp (B_law_asked T) .nil (fun _ => .nil) takesE (d_cons (d_var 1 (pv 1)) (d_cons (d_var 3 (pv 3)) d_nil))) (d_cons (d_call (ok_law_due T) (hr.mono (by decide)) (by rfl) T.g_law_due T.F_law_due.kp (B_law_due T) .nil (fun _ => .nil) takesE (d_cons (d_var 3 (pv 3)) d_nil)) d_nil))))) (s_one (s_ret d_bl)) s_nil)))))))))
  (s_one (s_ret d_bl))))
theorem tabs (K : PySem.W.Frag) : ∀ t ∈ (gg K).T, ∃ p ∈ tf.map (He.cT K), p.2 = t.1 := fun t ht => by
  simp only [gg, List.mem_cons, List.not_mem_nil, or_false] at ht
  rcases ht with rfl
  · exact ⟨_, List.mem_map.mpr ⟨("_law_asked", none), by decide, rfl⟩, rfl⟩
end
end KG

namespace KG
open PySem PySem.Spec PyProof.Rows L2 DL DX NdefX
def fa0 : List He.Fa := [.glo "is_name", .glo "is_whole", .glo "is_number", .glo "is_standing", .glo "check_names", .glo "check_terms", .glo "check_rank", .glo "_law_bag", .glo "_law_take", .glo "_law_of", .glo "_law_same", .glo "_law_names"]
def fa1 : List He.Fa := [.glo "_law_parts", .glo "_law_try", .glo "_law_why", .glo "_law_is_count", .glo "_law_is_call", .glo "_law_is_spot", .glo "_law_due", .glo "_law_good", .glo "_law_bad", .glo "_law_asked", .glo "law", .free "all"]
def fa2 : List He.Fa := [.free "bool", .free "dict", .free "int", .free "isinstance", .free "len", .free "list", .free "range", .free "str", .free "tuple", .free "super", .str "LETTERS" "abcdefghijklmnopqrstuvwxyz", .int "LAST_HOUR" 8]
def fa3 : List He.Fa := [.glo "StandError", .glo "InvalidName", .glo "InvalidNumber", .glo "InvalidStanding", .glo "Missing", .glo "Asking", .glo "Work", .glo "Hire", .mkr "Asking", .mkr "Work", .mkr "Hire", .cls "Asking"]
def fa4 : List He.Fa := [.cls "Work", .cls "Hire", .noat "Asking" "begins", .noat "Work" "begins", .noat "Hire" "begins", .noat "Asking" "crews", .noat "Work" "crews", .noat "Hire" "crews", .noat "Asking" "end", .noat "Work" "end", .noat "Hire" "end", .noat "Asking" "fee"]
def fa5 : List He.Fa := [.noat "Work" "fee", .noat "Hire" "fee", .noat "Asking" "key", .noat "Work" "key", .noat "Hire" "key", .noat "Asking" "name", .noat "Work" "name", .noat "Hire" "name", .noat "Asking" "owner", .noat "Work" "owner", .noat "Hire" "owner", .noat "Asking" "price"]
def fa6 : List He.Fa := [.noat "Work" "price", .noat "Hire" "price", .noat "Asking" "rank", .noat "Work" "rank", .noat "Hire" "rank", .noat "Asking" "start", .noat "Work" "start", .noat "Hire" "start", .noat "InvalidName" "at", .noat "InvalidName" "code", .noat "InvalidName" "key", .noat "InvalidName" "line"]
def fa7 : List He.Fa := [.noat "InvalidName" "most", .noat "InvalidName" "name", .noat "InvalidName" "standing", .noat "InvalidName" "value", .noat "InvalidName" "why", .noat "InvalidNumber" "at", .noat "InvalidNumber" "code", .noat "InvalidNumber" "key", .noat "InvalidNumber" "line", .noat "InvalidNumber" "most", .noat "InvalidNumber" "name", .noat "InvalidNumber" "standing"]
def fa8 : List He.Fa := [.noat "InvalidNumber" "value", .noat "InvalidNumber" "why", .noat "InvalidStanding" "at", .noat "InvalidStanding" "code", .noat "InvalidStanding" "key", .noat "InvalidStanding" "line", .noat "InvalidStanding" "most", .noat "InvalidStanding" "name", .noat "InvalidStanding" "standing", .noat "InvalidStanding" "value", .noat "InvalidStanding" "why"]
def faAll : List He.Fa := fa0 ++ fa1 ++ fa2 ++ fa3 ++ fa4 ++ fa5 ++ fa6 ++ fa7 ++ fa8
def exAll : List (PySem.W.Frag → Bool) := [fun K => DH.clsDefB K "Asking" "__init__",
  fun K => DH.clsDefB K "Work" "__init__",
  fun K => DH.clsDefB K "Hire" "__init__",
  fun K => xfB K (He.ga K "InvalidName"),
  fun K => xfB K (He.ga K "InvalidNumber"),
  fun K => xfB K (He.ga K "InvalidStanding"),
  fun K => decide (PySem.W.exmAny K (.ref (He.ga K "InvalidName")) [.ref (He.ga K "StandError"), .ref (He.ga K "Missing")] = some true),
  fun K => decide (PySem.W.exmAny K (.ref (He.ga K "InvalidNumber")) [.ref (He.ga K "StandError"), .ref (He.ga K "Missing")] = some true),
  fun K => decide (PySem.W.exmAny K (.ref (He.ga K "InvalidStanding")) [.ref (He.ga K "StandError"), .ref (He.ga K "Missing")] = some true)]
def chk (K : PySem.W.Frag) : Bool := faAll.all (fun f => f.ok K) && exAll.all fun f => f K
def dd_is_name : He.DefD := { at_ := ("is_name", none), name := "is_name", qual := "is_name", params := defArgs s_is_name, body := defBody s_is_name, scope := defScope s_is_name, dfl := [], kwd := [] }
def dd_is_whole : He.DefD := { at_ := ("is_whole", none), name := "is_whole", qual := "is_whole", params := defArgs s_is_whole, body := defBody s_is_whole, scope := defScope s_is_whole, dfl := [], kwd := [] }
def dd_is_number : He.DefD := { at_ := ("is_number", none), name := "is_number", qual := "is_number", params := defArgs s_is_number, body := defBody s_is_number, scope := defScope s_is_number, dfl := [], kwd := [] }
def dd_is_standing : He.DefD := { at_ := ("is_standing", none), name := "is_standing", qual := "is_standing", params := defArgs s_is_standing, body := defBody s_is_standing, scope := defScope s_is_standing, dfl := [], kwd := [] }
def dd_check_names : He.DefD := { at_ := ("check_names", none), name := "check_names", qual := "check_names", params := defArgs s_check_names, body := defBody s_check_names, scope := defScope s_check_names, dfl := [], kwd := [] }
def dd_check_terms : He.DefD := { at_ := ("check_terms", none), name := "check_terms", qual := "check_terms", params := defArgs s_check_terms, body := defBody s_check_terms, scope := defScope s_check_terms, dfl := [], kwd := [] }
def dd_check_rank : He.DefD := { at_ := ("check_rank", none), name := "check_rank", qual := "check_rank", params := defArgs s_check_rank, body := defBody s_check_rank, scope := defScope s_check_rank, dfl := [], kwd := [] }
def dd_Asking_init : He.DefD := { at_ := ("Asking", some "__init__"), name := "__init__", qual := "Asking.__init__", params := defArgs s_Asking_init, body := defBody s_Asking_init, scope := defScope s_Asking_init, dfl := [], kwd := [] }
def dd_Work_init : He.DefD := { at_ := ("Work", some "__init__"), name := "__init__", qual := "Work.__init__", params := defArgs s_Work_init, body := defBody s_Work_init, scope := defScope s_Work_init, dfl := [], kwd := [("rank", .int 0)] }
def dd_Hire_init : He.DefD := { at_ := ("Hire", some "__init__"), name := "__init__", qual := "Hire.__init__", params := defArgs s_Hire_init, body := defBody s_Hire_init, scope := defScope s_Hire_init, dfl := [], kwd := [("rank", .int 0)] }
def dd_law_bag : He.DefD := { at_ := ("_law_bag", none), name := "_law_bag", qual := "_law_bag", params := defArgs s_law_bag, body := defBody s_law_bag, scope := defScope s_law_bag, dfl := [], kwd := [] }
def dd_law_take : He.DefD := { at_ := ("_law_take", none), name := "_law_take", qual := "_law_take", params := defArgs s_law_take, body := defBody s_law_take, scope := defScope s_law_take, dfl := [], kwd := [] }
def dd_law_of : He.DefD := { at_ := ("_law_of", none), name := "_law_of", qual := "_law_of", params := defArgs s_law_of, body := defBody s_law_of, scope := defScope s_law_of, dfl := [], kwd := [] }
def dd_law_same : He.DefD := { at_ := ("_law_same", none), name := "_law_same", qual := "_law_same", params := defArgs s_law_same, body := defBody s_law_same, scope := defScope s_law_same, dfl := [], kwd := [] }
def dd_law_names : He.DefD := { at_ := ("_law_names", none), name := "_law_names", qual := "_law_names", params := defArgs s_law_names, body := defBody s_law_names, scope := defScope s_law_names, dfl := [.int 6], kwd := [] }
def dd_law_parts : He.DefD := { at_ := ("_law_parts", none), name := "_law_parts", qual := "_law_parts", params := defArgs s_law_parts, body := defBody s_law_parts, scope := defScope s_law_parts, dfl := [], kwd := [] }
def dd_law_try : He.DefD := { at_ := ("_law_try", none), name := "_law_try", qual := "_law_try", params := defArgs s_law_try, body := defBody s_law_try, scope := defScope s_law_try, dfl := [], kwd := [] }
def dd_law_why : He.DefD := { at_ := ("_law_why", none), name := "_law_why", qual := "_law_why", params := defArgs s_law_why, body := defBody s_law_why, scope := defScope s_law_why, dfl := [], kwd := [] }
def dd_law_is_count : He.DefD := { at_ := ("_law_is_count", none), name := "_law_is_count", qual := "_law_is_count", params := defArgs s_law_is_count, body := defBody s_law_is_count, scope := defScope s_law_is_count, dfl := [], kwd := [] }
def dd_law_is_call : He.DefD := { at_ := ("_law_is_call", none), name := "_law_is_call", qual := "_law_is_call", params := defArgs s_law_is_call, body := defBody s_law_is_call, scope := defScope s_law_is_call, dfl := [], kwd := [] }
def dd_law_is_spot : He.DefD := { at_ := ("_law_is_spot", none), name := "_law_is_spot", qual := "_law_is_spot", params := defArgs s_law_is_spot, body := defBody s_law_is_spot, scope := defScope s_law_is_spot, dfl := [], kwd := [] }
def dd_law_due : He.DefD := { at_ := ("_law_due", none), name := "_law_due", qual := "_law_due", params := defArgs s_law_due, body := defBody s_law_due, scope := defScope s_law_due, dfl := [], kwd := [] }
def dd_law_good : He.DefD := { at_ := ("_law_good", none), name := "_law_good", qual := "_law_good", params := defArgs s_law_good, body := defBody s_law_good, scope := defScope s_law_good, dfl := [], kwd := [] }
def dd_law_bad : He.DefD := { at_ := ("_law_bad", none), name := "_law_bad", qual := "_law_bad", params := defArgs s_law_bad, body := defBody s_law_bad, scope := defScope s_law_bad, dfl := [], kwd := [] }
def dd_law_asked : He.DefD := { at_ := ("_law_asked", none), name := "_law_asked", qual := "_law_asked", params := defArgs s_law_asked, body := defBody s_law_asked, scope := defScope s_law_asked, dfl := [], kwd := [] }
def dd_law : He.DefD := { at_ := ("law", none), name := "law", qual := "law", params := defArgs s_law, body := defBody s_law, scope := defScope s_law, dfl := [], kwd := [] }
def fn : List He.DefD := [dd_is_name, dd_is_whole, dd_is_number, dd_is_standing, dd_check_names, dd_check_terms, dd_check_rank, dd_Asking_init, dd_Work_init, dd_Hire_init, dd_law_bag, dd_law_take, dd_law_of, dd_law_same, dd_law_names, dd_law_parts, dd_law_try, dd_law_why, dd_law_is_count, dd_law_is_call, dd_law_is_spot, dd_law_due, dd_law_good, dd_law_bad, dd_law_asked, dd_law]
def fi : List DH.IniD := [xd_InvalidName, xd_InvalidNumber, xd_InvalidStanding]
theorem facts {K : PySem.W.Frag} {h : Heap} {mg : Str → Option Value} (X : K.In h) (G : h.Ns mainGlobals mg) (c : DH.SaysY PP chk fn fi tf h K) : Nonempty (TX K mg) := by
  obtain ⟨ck, cx⟩ := He.ba (show (faAll.all (fun f => f.ok K) && exAll.all fun f => f K) = true from c.chk_)
  have cx : ∀ (i : Nat) (e : PySem.W.Frag → Bool), exAll[i]? = some e → e K = true := fun i e h => List.all_eq_true.mp cx e (List.mem_of_getElem? h)
  obtain ⟨fd0, F0⟩ := c.def_ 0 (d := dd_is_name) rfl
  obtain ⟨fd1, F1⟩ := c.def_ 1 (d := dd_is_whole) rfl
  obtain ⟨fd2, F2⟩ := c.def_ 2 (d := dd_is_number) rfl
  obtain ⟨fd3, F3⟩ := c.def_ 3 (d := dd_is_standing) rfl
  obtain ⟨fd4, F4⟩ := c.def_ 4 (d := dd_check_names) rfl
  obtain ⟨fd5, F5⟩ := c.def_ 5 (d := dd_check_terms) rfl
  obtain ⟨fd6, F6⟩ := c.def_ 6 (d := dd_check_rank) rfl
  obtain ⟨fd7, F7⟩ := c.def_ 7 (d := dd_Asking_init) rfl
  obtain ⟨fd8, F8⟩ := c.def_ 8 (d := dd_Work_init) rfl
  obtain ⟨fd9, F9⟩ := c.def_ 9 (d := dd_Hire_init) rfl
  obtain ⟨fd10, F10⟩ := c.def_ 10 (d := dd_law_bag) rfl
  obtain ⟨fd11, F11⟩ := c.def_ 11 (d := dd_law_take) rfl
  obtain ⟨fd12, F12⟩ := c.def_ 12 (d := dd_law_of) rfl
  obtain ⟨fd13, F13⟩ := c.def_ 13 (d := dd_law_same) rfl
  obtain ⟨fd14, F14⟩ := c.def_ 14 (d := dd_law_names) rfl
  obtain ⟨fd15, F15⟩ := c.def_ 15 (d := dd_law_parts) rfl
  obtain ⟨fd16, F16⟩ := c.def_ 16 (d := dd_law_try) rfl
  obtain ⟨fd17, F17⟩ := c.def_ 17 (d := dd_law_why) rfl
  obtain ⟨fd18, F18⟩ := c.def_ 18 (d := dd_law_is_count) rfl
  obtain ⟨fd19, F19⟩ := c.def_ 19 (d := dd_law_is_call) rfl
  obtain ⟨fd20, F20⟩ := c.def_ 20 (d := dd_law_is_spot) rfl
  obtain ⟨fd21, F21⟩ := c.def_ 21 (d := dd_law_due) rfl
  obtain ⟨fd22, F22⟩ := c.def_ 22 (d := dd_law_good) rfl
  obtain ⟨fd23, F23⟩ := c.def_ 23 (d := dd_law_bad) rfl
  obtain ⟨fd24, F24⟩ := c.def_ 24 (d := dd_law_asked) rfl
  obtain ⟨fd25, F25⟩ := c.def_ 25 (d := dd_law) rfl
  obtain ⟨cc0, cd0, fi0, I0⟩ := c.ini 0 (d := xd_InvalidName) rfl
  obtain ⟨cc1, cd1, fi1, I1⟩ := c.ini 1 (d := xd_InvalidNumber) rfl
  obtain ⟨cc2, cd2, fi2, I2⟩ := c.ini 2 (d := xd_InvalidStanding) rfl
  exact ⟨{
    f_is_name := He.fAd K dd_is_name.at_,
    fd_is_name := fd0,
    F_is_name := F0,
    g_is_name := He.glo_ok X G (fa_of ck 0 (f := .glo "is_name") rfl),
    f_is_whole := He.fAd K dd_is_whole.at_,
    fd_is_whole := fd1,
    F_is_whole := F1,
    g_is_whole := He.glo_ok X G (fa_of ck 1 (f := .glo "is_whole") rfl),
    f_is_number := He.fAd K dd_is_number.at_,
    fd_is_number := fd2,
    F_is_number := F2,
    g_is_number := He.glo_ok X G (fa_of ck 2 (f := .glo "is_number") rfl),
    f_is_standing := He.fAd K dd_is_standing.at_,
    fd_is_standing := fd3,
    F_is_standing := F3,
    g_is_standing := He.glo_ok X G (fa_of ck 3 (f := .glo "is_standing") rfl),
    f_check_names := He.fAd K dd_check_names.at_,
    fd_check_names := fd4,
    F_check_names := F4,
    g_check_names := He.glo_ok X G (fa_of ck 4 (f := .glo "check_names") rfl),
    f_check_terms := He.fAd K dd_check_terms.at_,
    fd_check_terms := fd5,
    F_check_terms := F5,
    g_check_terms := He.glo_ok X G (fa_of ck 5 (f := .glo "check_terms") rfl),
    f_check_rank := He.fAd K dd_check_rank.at_,
    fd_check_rank := fd6,
    F_check_rank := F6,
    g_check_rank := He.glo_ok X G (fa_of ck 6 (f := .glo "check_rank") rfl),
    f_Asking_init := He.fAd K dd_Asking_init.at_,
    fd_Asking_init := fd7,
    F_Asking_init := F7,
    f_Work_init := He.fAd K dd_Work_init.at_,
    fd_Work_init := fd8,
    F_Work_init := F8,
    f_Hire_init := He.fAd K dd_Hire_init.at_,
    fd_Hire_init := fd9,
    F_Hire_init := F9,
    f_law_bag := He.fAd K dd_law_bag.at_,
    fd_law_bag := fd10,
    F_law_bag := F10,
    g_law_bag := He.glo_ok X G (fa_of ck 7 (f := .glo "_law_bag") rfl),
    f_law_take := He.fAd K dd_law_take.at_,
    fd_law_take := fd11,
    F_law_take := F11,
    g_law_take := He.glo_ok X G (fa_of ck 8 (f := .glo "_law_take") rfl),
    f_law_of := He.fAd K dd_law_of.at_,
    fd_law_of := fd12,
    F_law_of := F12,
    g_law_of := He.glo_ok X G (fa_of ck 9 (f := .glo "_law_of") rfl),
    f_law_same := He.fAd K dd_law_same.at_,
    fd_law_same := fd13,
    F_law_same := F13,
    g_law_same := He.glo_ok X G (fa_of ck 10 (f := .glo "_law_same") rfl),
    f_law_names := He.fAd K dd_law_names.at_,
    fd_law_names := fd14,
    F_law_names := F14,
    g_law_names := He.glo_ok X G (fa_of ck 11 (f := .glo "_law_names") rfl),
    f_law_parts := He.fAd K dd_law_parts.at_,
    fd_law_parts := fd15,
    F_law_parts := F15,
    g_law_parts := He.glo_ok X G (fa_of ck 12 (f := .glo "_law_parts") rfl),
    f_law_try := He.fAd K dd_law_try.at_,
    fd_law_try := fd16,
    F_law_try := F16,
    g_law_try := He.glo_ok X G (fa_of ck 13 (f := .glo "_law_try") rfl),
    f_law_why := He.fAd K dd_law_why.at_,
    fd_law_why := fd17,
    F_law_why := F17,
    g_law_why := He.glo_ok X G (fa_of ck 14 (f := .glo "_law_why") rfl),
    f_law_is_count := He.fAd K dd_law_is_count.at_,
    fd_law_is_count := fd18,
    F_law_is_count := F18,
    g_law_is_count := He.glo_ok X G (fa_of ck 15 (f := .glo "_law_is_count") rfl),
    f_law_is_call := He.fAd K dd_law_is_call.at_,
    fd_law_is_call := fd19,
    F_law_is_call := F19,
    g_law_is_call := He.glo_ok X G (fa_of ck 16 (f := .glo "_law_is_call") rfl),
    f_law_is_spot := He.fAd K dd_law_is_spot.at_,
    fd_law_is_spot := fd20,
    F_law_is_spot := F20,
    g_law_is_spot := He.glo_ok X G (fa_of ck 17 (f := .glo "_law_is_spot") rfl),
    f_law_due := He.fAd K dd_law_due.at_,
    fd_law_due := fd21,
    F_law_due := F21,
    g_law_due := He.glo_ok X G (fa_of ck 18 (f := .glo "_law_due") rfl),
    f_law_good := He.fAd K dd_law_good.at_,
    fd_law_good := fd22,
    F_law_good := F22,
    g_law_good := He.glo_ok X G (fa_of ck 19 (f := .glo "_law_good") rfl),
    f_law_bad := He.fAd K dd_law_bad.at_,
    fd_law_bad := fd23,
    F_law_bad := F23,
    g_law_bad := He.glo_ok X G (fa_of ck 20 (f := .glo "_law_bad") rfl),
    f_law_asked := He.fAd K dd_law_asked.at_,
    fd_law_asked := fd24,
    F_law_asked := F24,
    g_law_asked := He.glo_ok X G (fa_of ck 21 (f := .glo "_law_asked") rfl),
    a_law_asked := rfl,
    f_law := He.fAd K dd_law.at_,
    fd_law := fd25,
    F_law := F25,
    g_law := He.glo_ok X G (fa_of ck 22 (f := .glo "law") rfl),
    b_all := He.free_ok X G (fa_of ck 23 (f := .free "all") rfl),
    b_bool := He.free_ok X G (fa_of ck 24 (f := .free "bool") rfl),
    b_dict := He.free_ok X G (fa_of ck 25 (f := .free "dict") rfl),
    b_int := He.free_ok X G (fa_of ck 26 (f := .free "int") rfl),
    b_isinstance := He.free_ok X G (fa_of ck 27 (f := .free "isinstance") rfl),
    b_len := He.free_ok X G (fa_of ck 28 (f := .free "len") rfl),
    b_list := He.free_ok X G (fa_of ck 29 (f := .free "list") rfl),
    b_range := He.free_ok X G (fa_of ck 30 (f := .free "range") rfl),
    b_str := He.free_ok X G (fa_of ck 31 (f := .free "str") rfl),
    b_tuple := He.free_ok X G (fa_of ck 32 (f := .free "tuple") rfl),
    b_super := He.free_ok X G (fa_of ck 33 (f := .free "super") rfl),
    c_LETTERS := (let ⟨t, e⟩ := He.str_ok X G (fa_of ck 34 (f := .str "LETTERS" "abcdefghijklmnopqrstuvwxyz") rfl); ⟨.str "abcdefghijklmnopqrstuvwxyz", _, e, ⟨t, rfl⟩, fun _ => .str _⟩),
    c_LAST_HOUR := (let ⟨t, e⟩ := He.int_ok X G (fa_of ck 35 (f := .int "LAST_HOUR" 8) rfl); ⟨.int 8, _, e, ⟨t, rfl⟩, fun _ => .int _⟩),
    gc_StandError := He.glo_ok X G (fa_of ck 36 (f := .glo "StandError") rfl),
    gc_InvalidName := He.glo_ok X G (fa_of ck 37 (f := .glo "InvalidName") rfl),
    gc_InvalidNumber := He.glo_ok X G (fa_of ck 38 (f := .glo "InvalidNumber") rfl),
    gc_InvalidStanding := He.glo_ok X G (fa_of ck 39 (f := .glo "InvalidStanding") rfl),
    gc_Missing := He.glo_ok X G (fa_of ck 40 (f := .glo "Missing") rfl),
    gc_Asking := He.glo_ok X G (fa_of ck 41 (f := .glo "Asking") rfl),
    gc_Work := He.glo_ok X G (fa_of ck 42 (f := .glo "Work") rfl),
    gc_Hire := He.glo_ok X G (fa_of ck 43 (f := .glo "Hire") rfl),
    cc_InvalidName := cc0,
    cd_InvalidName := cd0, fi_InvalidName := fi0, I_InvalidName := I0,
    cc_InvalidNumber := cc1,
    cd_InvalidNumber := cd1, fi_InvalidNumber := fi1, I_InvalidNumber := I1,
    cc_InvalidStanding := cc2,
    cd_InvalidStanding := cd2, fi_InvalidStanding := fi2, I_InvalidStanding := I2,
    K_Asking := He.mkr_ok (fa_of ck 44 (f := .mkr "Asking") rfl),
    D_Asking_init := DH.clsDef_ok (cx 0 _ rfl),
    K_Work := He.mkr_ok (fa_of ck 45 (f := .mkr "Work") rfl),
    D_Work_init := DH.clsDef_ok (cx 1 _ rfl),
    K_Hire := He.mkr_ok (fa_of ck 46 (f := .mkr "Hire") rfl),
    D_Hire_init := DH.clsDef_ok (cx 2 _ rfl),
    A_begins := fun c hc => by
      simp only [ics, List.mem_cons, List.not_mem_nil, or_false] at hc
      rcases hc with rfl | rfl | rfl <;> first | exact ⟨He.cls_ok (fa_of ck 47 (f := .cls "Asking") rfl), He.noat_ok (fa_of ck 50 (f := .noat "Asking" "begins") rfl)⟩ | exact ⟨He.cls_ok (fa_of ck 48 (f := .cls "Work") rfl), He.noat_ok (fa_of ck 51 (f := .noat "Work" "begins") rfl)⟩ | exact ⟨He.cls_ok (fa_of ck 49 (f := .cls "Hire") rfl), He.noat_ok (fa_of ck 52 (f := .noat "Hire" "begins") rfl)⟩,
    A_crews := fun c hc => by
      simp only [ics, List.mem_cons, List.not_mem_nil, or_false] at hc
      rcases hc with rfl | rfl | rfl <;> first | exact ⟨He.cls_ok (fa_of ck 47 (f := .cls "Asking") rfl), He.noat_ok (fa_of ck 53 (f := .noat "Asking" "crews") rfl)⟩ | exact ⟨He.cls_ok (fa_of ck 48 (f := .cls "Work") rfl), He.noat_ok (fa_of ck 54 (f := .noat "Work" "crews") rfl)⟩ | exact ⟨He.cls_ok (fa_of ck 49 (f := .cls "Hire") rfl), He.noat_ok (fa_of ck 55 (f := .noat "Hire" "crews") rfl)⟩,
    A_end := fun c hc => by
      simp only [ics, List.mem_cons, List.not_mem_nil, or_false] at hc
      rcases hc with rfl | rfl | rfl <;> first | exact ⟨He.cls_ok (fa_of ck 47 (f := .cls "Asking") rfl), He.noat_ok (fa_of ck 56 (f := .noat "Asking" "end") rfl)⟩ | exact ⟨He.cls_ok (fa_of ck 48 (f := .cls "Work") rfl), He.noat_ok (fa_of ck 57 (f := .noat "Work" "end") rfl)⟩ | exact ⟨He.cls_ok (fa_of ck 49 (f := .cls "Hire") rfl), He.noat_ok (fa_of ck 58 (f := .noat "Hire" "end") rfl)⟩,
    A_fee := fun c hc => by
      simp only [ics, List.mem_cons, List.not_mem_nil, or_false] at hc
      rcases hc with rfl | rfl | rfl <;> first | exact ⟨He.cls_ok (fa_of ck 47 (f := .cls "Asking") rfl), He.noat_ok (fa_of ck 59 (f := .noat "Asking" "fee") rfl)⟩ | exact ⟨He.cls_ok (fa_of ck 48 (f := .cls "Work") rfl), He.noat_ok (fa_of ck 60 (f := .noat "Work" "fee") rfl)⟩ | exact ⟨He.cls_ok (fa_of ck 49 (f := .cls "Hire") rfl), He.noat_ok (fa_of ck 61 (f := .noat "Hire" "fee") rfl)⟩,
    A_key := fun c hc => by
      simp only [ics, List.mem_cons, List.not_mem_nil, or_false] at hc
      rcases hc with rfl | rfl | rfl <;> first | exact ⟨He.cls_ok (fa_of ck 47 (f := .cls "Asking") rfl), He.noat_ok (fa_of ck 62 (f := .noat "Asking" "key") rfl)⟩ | exact ⟨He.cls_ok (fa_of ck 48 (f := .cls "Work") rfl), He.noat_ok (fa_of ck 63 (f := .noat "Work" "key") rfl)⟩ | exact ⟨He.cls_ok (fa_of ck 49 (f := .cls "Hire") rfl), He.noat_ok (fa_of ck 64 (f := .noat "Hire" "key") rfl)⟩,
    A_name := fun c hc => by
      simp only [ics, List.mem_cons, List.not_mem_nil, or_false] at hc
      rcases hc with rfl | rfl | rfl <;> first | exact ⟨He.cls_ok (fa_of ck 47 (f := .cls "Asking") rfl), He.noat_ok (fa_of ck 65 (f := .noat "Asking" "name") rfl)⟩ | exact ⟨He.cls_ok (fa_of ck 48 (f := .cls "Work") rfl), He.noat_ok (fa_of ck 66 (f := .noat "Work" "name") rfl)⟩ | exact ⟨He.cls_ok (fa_of ck 49 (f := .cls "Hire") rfl), He.noat_ok (fa_of ck 67 (f := .noat "Hire" "name") rfl)⟩,
    A_owner := fun c hc => by
      simp only [ics, List.mem_cons, List.not_mem_nil, or_false] at hc
      rcases hc with rfl | rfl | rfl <;> first | exact ⟨He.cls_ok (fa_of ck 47 (f := .cls "Asking") rfl), He.noat_ok (fa_of ck 68 (f := .noat "Asking" "owner") rfl)⟩ | exact ⟨He.cls_ok (fa_of ck 48 (f := .cls "Work") rfl), He.noat_ok (fa_of ck 69 (f := .noat "Work" "owner") rfl)⟩ | exact ⟨He.cls_ok (fa_of ck 49 (f := .cls "Hire") rfl), He.noat_ok (fa_of ck 70 (f := .noat "Hire" "owner") rfl)⟩,
    A_price := fun c hc => by
      simp only [ics, List.mem_cons, List.not_mem_nil, or_false] at hc
      rcases hc with rfl | rfl | rfl <;> first | exact ⟨He.cls_ok (fa_of ck 47 (f := .cls "Asking") rfl), He.noat_ok (fa_of ck 71 (f := .noat "Asking" "price") rfl)⟩ | exact ⟨He.cls_ok (fa_of ck 48 (f := .cls "Work") rfl), He.noat_ok (fa_of ck 72 (f := .noat "Work" "price") rfl)⟩ | exact ⟨He.cls_ok (fa_of ck 49 (f := .cls "Hire") rfl), He.noat_ok (fa_of ck 73 (f := .noat "Hire" "price") rfl)⟩,
    A_rank := fun c hc => by
      simp only [ics, List.mem_cons, List.not_mem_nil, or_false] at hc
      rcases hc with rfl | rfl | rfl <;> first | exact ⟨He.cls_ok (fa_of ck 47 (f := .cls "Asking") rfl), He.noat_ok (fa_of ck 74 (f := .noat "Asking" "rank") rfl)⟩ | exact ⟨He.cls_ok (fa_of ck 48 (f := .cls "Work") rfl), He.noat_ok (fa_of ck 75 (f := .noat "Work" "rank") rfl)⟩ | exact ⟨He.cls_ok (fa_of ck 49 (f := .cls "Hire") rfl), He.noat_ok (fa_of ck 76 (f := .noat "Hire" "rank") rfl)⟩,
    A_start := fun c hc => by
      simp only [ics, List.mem_cons, List.not_mem_nil, or_false] at hc
      rcases hc with rfl | rfl | rfl <;> first | exact ⟨He.cls_ok (fa_of ck 47 (f := .cls "Asking") rfl), He.noat_ok (fa_of ck 77 (f := .noat "Asking" "start") rfl)⟩ | exact ⟨He.cls_ok (fa_of ck 48 (f := .cls "Work") rfl), He.noat_ok (fa_of ck 78 (f := .noat "Work" "start") rfl)⟩ | exact ⟨He.cls_ok (fa_of ck 49 (f := .cls "Hire") rfl), He.noat_ok (fa_of ck 79 (f := .noat "Hire" "start") rfl)⟩,
    X_at := fun c hc => by
      simp only [xcs, List.mem_cons, List.not_mem_nil, or_false] at hc
      rcases hc with rfl | rfl | rfl <;> first | exact ⟨xfB_ok (cx 3 _ rfl), He.noat_ok (fa_of ck 80 (f := .noat "InvalidName" "at") rfl)⟩ | exact ⟨xfB_ok (cx 4 _ rfl), He.noat_ok (fa_of ck 89 (f := .noat "InvalidNumber" "at") rfl)⟩ | exact ⟨xfB_ok (cx 5 _ rfl), He.noat_ok (fa_of ck 98 (f := .noat "InvalidStanding" "at") rfl)⟩,
    X_code := fun c hc => by
      simp only [xcs, List.mem_cons, List.not_mem_nil, or_false] at hc
      rcases hc with rfl | rfl | rfl <;> first | exact ⟨xfB_ok (cx 3 _ rfl), He.noat_ok (fa_of ck 81 (f := .noat "InvalidName" "code") rfl)⟩ | exact ⟨xfB_ok (cx 4 _ rfl), He.noat_ok (fa_of ck 90 (f := .noat "InvalidNumber" "code") rfl)⟩ | exact ⟨xfB_ok (cx 5 _ rfl), He.noat_ok (fa_of ck 99 (f := .noat "InvalidStanding" "code") rfl)⟩,
    X_key := fun c hc => by
      simp only [xcs, List.mem_cons, List.not_mem_nil, or_false] at hc
      rcases hc with rfl | rfl | rfl <;> first | exact ⟨xfB_ok (cx 3 _ rfl), He.noat_ok (fa_of ck 82 (f := .noat "InvalidName" "key") rfl)⟩ | exact ⟨xfB_ok (cx 4 _ rfl), He.noat_ok (fa_of ck 91 (f := .noat "InvalidNumber" "key") rfl)⟩ | exact ⟨xfB_ok (cx 5 _ rfl), He.noat_ok (fa_of ck 100 (f := .noat "InvalidStanding" "key") rfl)⟩,
    X_line := fun c hc => by
      simp only [xcs, List.mem_cons, List.not_mem_nil, or_false] at hc
      rcases hc with rfl | rfl | rfl <;> first | exact ⟨xfB_ok (cx 3 _ rfl), He.noat_ok (fa_of ck 83 (f := .noat "InvalidName" "line") rfl)⟩ | exact ⟨xfB_ok (cx 4 _ rfl), He.noat_ok (fa_of ck 92 (f := .noat "InvalidNumber" "line") rfl)⟩ | exact ⟨xfB_ok (cx 5 _ rfl), He.noat_ok (fa_of ck 101 (f := .noat "InvalidStanding" "line") rfl)⟩,
    X_most := fun c hc => by
      simp only [xcs, List.mem_cons, List.not_mem_nil, or_false] at hc
      rcases hc with rfl | rfl | rfl <;> first | exact ⟨xfB_ok (cx 3 _ rfl), He.noat_ok (fa_of ck 84 (f := .noat "InvalidName" "most") rfl)⟩ | exact ⟨xfB_ok (cx 4 _ rfl), He.noat_ok (fa_of ck 93 (f := .noat "InvalidNumber" "most") rfl)⟩ | exact ⟨xfB_ok (cx 5 _ rfl), He.noat_ok (fa_of ck 102 (f := .noat "InvalidStanding" "most") rfl)⟩,
    X_name := fun c hc => by
      simp only [xcs, List.mem_cons, List.not_mem_nil, or_false] at hc
      rcases hc with rfl | rfl | rfl <;> first | exact ⟨xfB_ok (cx 3 _ rfl), He.noat_ok (fa_of ck 85 (f := .noat "InvalidName" "name") rfl)⟩ | exact ⟨xfB_ok (cx 4 _ rfl), He.noat_ok (fa_of ck 94 (f := .noat "InvalidNumber" "name") rfl)⟩ | exact ⟨xfB_ok (cx 5 _ rfl), He.noat_ok (fa_of ck 103 (f := .noat "InvalidStanding" "name") rfl)⟩,
    X_standing := fun c hc => by
      simp only [xcs, List.mem_cons, List.not_mem_nil, or_false] at hc
      rcases hc with rfl | rfl | rfl <;> first | exact ⟨xfB_ok (cx 3 _ rfl), He.noat_ok (fa_of ck 86 (f := .noat "InvalidName" "standing") rfl)⟩ | exact ⟨xfB_ok (cx 4 _ rfl), He.noat_ok (fa_of ck 95 (f := .noat "InvalidNumber" "standing") rfl)⟩ | exact ⟨xfB_ok (cx 5 _ rfl), He.noat_ok (fa_of ck 104 (f := .noat "InvalidStanding" "standing") rfl)⟩,
    X_value := fun c hc => by
      simp only [xcs, List.mem_cons, List.not_mem_nil, or_false] at hc
      rcases hc with rfl | rfl | rfl <;> first | exact ⟨xfB_ok (cx 3 _ rfl), He.noat_ok (fa_of ck 87 (f := .noat "InvalidName" "value") rfl)⟩ | exact ⟨xfB_ok (cx 4 _ rfl), He.noat_ok (fa_of ck 96 (f := .noat "InvalidNumber" "value") rfl)⟩ | exact ⟨xfB_ok (cx 5 _ rfl), He.noat_ok (fa_of ck 105 (f := .noat "InvalidStanding" "value") rfl)⟩,
    X_why := fun c hc => by
      simp only [xcs, List.mem_cons, List.not_mem_nil, or_false] at hc
      rcases hc with rfl | rfl | rfl <;> first | exact ⟨xfB_ok (cx 3 _ rfl), He.noat_ok (fa_of ck 88 (f := .noat "InvalidName" "why") rfl)⟩ | exact ⟨xfB_ok (cx 4 _ rfl), He.noat_ok (fa_of ck 97 (f := .noat "InvalidNumber" "why") rfl)⟩ | exact ⟨xfB_ok (cx 5 _ rfl), He.noat_ok (fa_of ck 106 (f := .noat "InvalidStanding" "why") rfl)⟩,
    no_InvalidName := fun n hn => by
      simp only [List.mem_cons, List.not_mem_nil, or_false] at hn
      rcases hn with rfl | rfl <;> first | exact He.noat_ok (fa_of ck 81 (f := .noat "InvalidName" "code") rfl) | exact He.noat_ok (fa_of ck 87 (f := .noat "InvalidName" "value") rfl),
    no_InvalidNumber := fun n hn => by
      simp only [List.mem_cons, List.not_mem_nil, or_false] at hn
      rcases hn with rfl | rfl <;> first | exact He.noat_ok (fa_of ck 90 (f := .noat "InvalidNumber" "code") rfl) | exact He.noat_ok (fa_of ck 96 (f := .noat "InvalidNumber" "value") rfl),
    no_InvalidStanding := fun n hn => by
      simp only [List.mem_cons, List.not_mem_nil, or_false] at hn
      rcases hn with rfl | rfl <;> first | exact He.noat_ok (fa_of ck 99 (f := .noat "InvalidStanding" "code") rfl) | exact He.noat_ok (fa_of ck 105 (f := .noat "InvalidStanding" "value") rfl),
    x_caught := fun c hc => by
      simp only [xcs, List.mem_cons, List.not_mem_nil, or_false] at hc
      rcases hc with rfl | rfl | rfl <;> first | exact of_decide_eq_true (cx 6 _ rfl) | exact of_decide_eq_true (cx 7 _ rfl) | exact of_decide_eq_true (cx 8 _ rfl) }⟩
def lo0 : List Str := ["_wall", "StandError", "InvalidName", "InvalidNumber", "InvalidStanding", "Missing", "LETTERS", "LAST_HOUR", "is_name", "is_whole", "is_number", "is_standing"]
def lo1 : List Str := ["check_names", "check_terms", "check_rank", "Asking", "Work", "Hire", "_law_bag", "_law_take", "_law_of", "_law_same", "_law_names", "_law_parts"]
def lo2 : List Str := ["_law_try", "_law_why", "_law_is_count", "_law_is_call", "_law_is_spot", "_law_due", "_law_good", "_law_bad", "_law_asked"]
abbrev loose : List Str := lo0 ++ lo1 ++ lo2
abbrev R : PySem.W.OpenRow := PySem.W.OpenLaw.row PySem.Challenge.rw_standworth_k07_askings_refused
abbrev hkX : PySem.W.Hook := DH.hookY 5 PP chk fn fi tf
def obH (s : PySem.W.SharedT) : DH.AlY := DH.obsY 5 PP chk fn fi tf (HandSHeadRun.getT s)
theorem obH_eq (s : PySem.W.SharedT) : obH s = hkX.obs s.abs := DH.obsY_eq (HandSHeadRun.getT_eq s)
set_option maxHeartbeats 0 in
theorem headRun (w : World) : HandSHeadRun.RunEq R (PySem.W.view R.prog [37]) hkX obH 6000 loose w := by
  intro os
  kernel_rfl
end KG

/-! DL13: what a mirror gives, told by what holds behind it. -/
namespace DL
open PySem PySem.Spec PyProof.Rows L2

/-- there is one, and it is so -/
def So' {α : Type} (o : Option α) (P : α → Prop) : Prop := match o with
  | some a => P a
  | none => False
theorem so_some' {α : Type} (a : α) (P : α → Prop) : So' (some a) P = P a := rfl
theorem so_none' {α : Type} (P : α → Prop) : So' none P = False := rfl
theorem so_bind' {α β : Type} (o : Option α) (f : α → Option β) (P : β → Prop) : So' (o.bind f) P = So' o (fun a => So' (f a) P) := by cases o <;> rfl
theorem so_map' {α β : Type} (o : Option α) (f : α → β) (P : β → Prop) : So' (o.map f) P = So' o (fun a => P (f a)) := by cases o <;> rfl
theorem so_ite' {α : Type} (c : Prop) {inst : Decidable c} (a : Option α) (P : α → Prop) : So' (if c then a else none) P = (c ∧ So' a P) := by
  by_cases h : c
  · rw [if_pos h]; exact propext ⟨fun q => ⟨h, q⟩, fun q => q.2⟩
  · rw [if_neg h]; exact propext ⟨fun q => q.elim, fun q => h q.1⟩
theorem so_congr' {α : Type} {o o' : Option α} {P : α → Prop} (h : o = o') : So' o P = So' o' P := by rw [h]
theorem on_congr' {α : Type} {o o' : Ret α} {K : α → Sto → Prop} {E : Exc → Sto → Prop} (h : o = o') : o.on K E = o'.on K E := by rw [h]
theorem So'.mono {α : Type} {o : Option α} {P Q : α → Prop} (h : So' o P) (m : ∀ a, P a → Q a) : So' o Q := by
  cases o with
  | none => exact h
  | some a => exact m a h

section
variable {α β : Type} {K : α → Sto → Prop} {E : Exc → Sto → Prop}
theorem on_ok' (a : α) (S : Sto) (K : α → Sto → Prop) (E : Exc → Sto → Prop) : (Ret.ok a S).on K E = K a S := rfl
theorem on_exc' (x : Exc) (S : Sto) (K : α → Sto → Prop) (E : Exc → Sto → Prop) : (Ret.exc x S : Ret α).on K E = E x S := rfl
theorem on_bad' (K : α → Sto → Prop) (E : Exc → Sto → Prop) : (Ret.bad : Ret α).on K E = False := rfl
theorem on_bind' (r : Ret α) (k : α → Sto → Ret β) (K : β → Sto → Prop) (E : Exc → Sto → Prop) : (r.bind k).on K E = r.on (fun a S => (k a S).on K E) E := by cases r <;> rfl
theorem on_of' (o : Option α) (S : Sto) (K : α → Sto → Prop) (E : Exc → Sto → Prop) : (Ret.of o S).on K E = So' o (fun a => K a S) := by cases o <;> rfl
theorem on_ite' (c : Prop) {inst : Decidable c} (a b : Ret α) (K : α → Sto → Prop) (E : Exc → Sto → Prop) : (if c then a else b).on K E = (if c then a.on K E else b.on K E) := by split <;> rfl
theorem on_iteB' (c : Prop) {inst : Decidable c} (a : Ret α) (K : α → Sto → Prop) (E : Exc → Sto → Prop) : (if c then a else .bad).on K E = (c ∧ a.on K E) := by
  by_cases h : c
  · rw [if_pos h]; exact propext ⟨fun q => ⟨h, q⟩, fun q => q.2⟩
  · rw [if_neg h]; exact propext ⟨fun q => q.elim, fun q => h q.1⟩
theorem on_noE' (r : Ret D) (K : D → Sto → Prop) (E : Exc → Sto → Prop) : (lcNo r).on K E = r.on K (fun _ _ => False) := by cases r <;> rfl
end

/-- what holds behind a statement -/
structure Po where
  nx : Env → Sto → Prop
  rt : D → Sto → Prop
  bk : Env → Sto → Prop
  ct : Env → Sto → Prop
  ex : Exc → Env → Sto → Prop
def Out.on (o : Out) (P : Po) : Prop := match o with
  | .nx e S => P.nx e S
  | .rt d S => P.rt d S
  | .bk e S => P.bk e S
  | .ct e S => P.ct e S
  | .exc x e S => P.ex x e S
  | .bad => False
theorem son_congr' {o o' : Out} {P : Po} (h : o = o') : o.on P = o'.on P := by rw [h]
theorem on_into' {α : Type} (r : Ret α) (e : Env) (k : α → Sto → Out) (P : Po) : (r.into e k).on P = r.on (fun a S => (k a S).on P) (fun x S => P.ex x e S) := by cases r <;> rfl
theorem son_ite' (c : Prop) {inst : Decidable c} (a b : Out) (P : Po) : (if c then a else b).on P = (if c then a.on P else b.on P) := by split <;> rfl
theorem son_nx' (e : Env) (S : Sto) (P : Po) : (Out.nx e S).on P = P.nx e S := rfl
theorem son_rt' (d : D) (S : Sto) (P : Po) : (Out.rt d S).on P = P.rt d S := rfl
theorem son_bk' (e : Env) (S : Sto) (P : Po) : (Out.bk e S).on P = P.bk e S := rfl
theorem son_ct' (e : Env) (S : Sto) (P : Po) : (Out.ct e S).on P = P.ct e S := rfl
theorem son_exc' (x : Exc) (e : Env) (S : Sto) (P : Po) : (Out.exc x e S).on P = P.ex x e S := rfl
theorem son_bad' (P : Po) : Out.bad.on P = False := rfl
/-- another end of the usual way -/
def Po.to (P : Po) (nx : Env → Sto → Prop) : Po := ⟨nx, P.rt, P.bk, P.ct, P.ex⟩
theorem po_nx (P : Po) (n : Env → Sto → Prop) : (P.to n).nx = n := rfl
theorem po_rt (P : Po) (n : Env → Sto → Prop) : (P.to n).rt = P.rt := rfl
theorem po_bk (P : Po) (n : Env → Sto → Prop) : (P.to n).bk = P.bk := rfl
theorem po_ct (P : Po) (n : Env → Sto → Prop) : (P.to n).ct = P.ct := rfl
theorem po_ex (P : Po) (n : Env → Sto → Prop) : (P.to n).ex = P.ex := rfl
/-- behind a def's body -/
def Po.fn (K : D → Sto → Prop) (E : Exc → Sto → Prop) : Po := ⟨fun _ S => K .non S, K, fun _ _ => False, fun _ _ => False, fun x _ S => E x S⟩
theorem on_runB' (k : Nat) (f : Sv) (ds : List D) (S : Sto) (K : D → Sto → Prop) (E : Exc → Sto → Prop) : (runB k f ds S).on K E = (f (start0 k ds) S).on (Po.fn K E) := by
  unfold runB
  cases f (start0 k ds) S <;> rfl
section
variable (e : Env) (S : Sto) (P : Po) (K : D → Sto → Prop) (E : Exc → Sto → Prop)
theorem von_nil' : (sNil e S).on P = P.nx e S := rfl
theorem von_pass' : (sPass e S).on P = P.nx e S := rfl
theorem von_break' : (sBreak e S).on P = P.bk e S := rfl
theorem von_cont' : (sCont e S).on P = P.ct e S := rfl
theorem von_retN' : (sRetN e S).on P = P.rt .non S := rfl
theorem von_seq' (f u : Sv) : (sSeq f u e S).on P = (f e S).on (P.to fun e S => (u e S).on P) := by
  unfold sSeq
  cases f e S <;> rfl
theorem von_expr' (fa : Ev) : (sExpr fa e S).on P = (fa e S).on (fun _ S => P.nx e S) (fun x S => P.ex x e S) := on_into' _ _ _ _
theorem von_ret' (fa : Ev) : (sRet fa e S).on P = (fa e S).on (fun d S => P.rt d S) (fun x S => P.ex x e S) := on_into' _ _ _ _
theorem von_if' (t : Tv) (f u : Sv) : (sIf t f u e S).on P = (t e S).on (fun c S => if c = true then (f e S).on P else (u e S).on P) (fun x S => P.ex x e S) := by
  refine (on_into' _ _ _ _).trans ?_
  congr 1
  funext c S
  exact son_ite' _ _ _ _
theorem von_set' (i : Nat) (fa : Ev) : (sSet i fa e S).on P = (fa e S).on (fun d S => P.nx (e.set i (some d)) S) (fun x S => P.ex x e S) := on_into' _ _ _ _
theorem von_asg' (fa : Ev) (G : Gv) : (sAsg fa G e S).on P = (fa e S).on (fun d S => So' (G d e S) fun r => P.nx r.1 r.2) (fun x S => P.ex x e S) := by
  refine (on_into' _ _ _ _).trans ?_
  congr 1
  funext d S
  cases G d e S <;> rfl
theorem von_par2' (i j : Nat) (fr : Av) : (sPar2 i j fr e S).on P = (fr e S).on (fun ds S => match ds with | [x, y] => P.nx ((e.set i (some x)).set j (some y)) S | _ => False) (fun x S => P.ex x e S) := by
  refine (on_into' _ _ _ _).trans ?_
  congr 1
  funext ds S
  rcases ds with _ | ⟨x, _ | ⟨y, _ | ⟨z, r⟩⟩⟩ <;> rfl
theorem von_par3' (i j l : Nat) (fr : Av) : (sPar3 i j l fr e S).on P = (fr e S).on (fun ds S => match ds with | [x, y, z] => P.nx (((e.set i (some x)).set j (some y)).set l (some z)) S | _ => False) (fun x S => P.ex x e S) := by
  refine (on_into' _ _ _ _).trans ?_
  congr 1
  funext ds S
  rcases ds with _ | ⟨x, _ | ⟨y, _ | ⟨z, _ | ⟨u, r⟩⟩⟩⟩ <;> rfl
theorem von_for' (fi : Av) (G : Gv) (f : Sv) : (sFor fi G f e S).on P = (fi e S).on (fun ds S => (forL G f ds e S).on P) (fun x S => P.ex x e S) := on_into' _ _ _ _
theorem von_var' (i : Nat) : (eVar i e S).on K E = So' (e[i]?) (fun o => So' o fun d => K d S) := by
  unfold eVar
  rcases e[i]? with _ | _ | d <;> rfl
theorem von_C' (d : D) : (eC d e S).on K E = K d S := rfl
theorem von_aNil' (K : List D → Sto → Prop) : (aNil e S).on K E = K [] S := rfl
theorem von_aCons' (fa : Ev) (fr : Av) (K : List D → Sto → Prop) : (aCons fa fr e S).on K E = (fa e S).on (fun d S => (fr e S).on (fun ds S => K (d :: ds) S) E) E := by
  refine (on_bind' _ _ _ _).trans ?_
  congr 1
  funext d S
  exact on_bind' _ _ _ _
theorem von_tup' (fr : Av) : (eTup fr e S).on K E = (fr e S).on (fun ds S => ds.length ≤ LN ∧ K (.tup ds) S) E := by
  refine (on_bind' _ _ _ _).trans ?_
  congr 1
  funext d S
  exact on_iteB' _ _ _ _
theorem von_lst' (fr : Av) : (eLst fr e S).on K E = (fr e S).on (fun ds S => ds.length ≤ LN ∧ K (.lst ds) S) E := by
  refine (on_bind' _ _ _ _).trans ?_
  congr 1
  funext d S
  exact on_iteB' _ _ _ _
theorem von_lstM' (fr : Av) : (eLstM fr e S).on K E = (fr e S).on (fun ds S => ds.length ≤ LN ∧ K (.loc S.length) (S ++ [.lst ds])) E := by
  refine (on_bind' _ _ _ _).trans ?_
  congr 1
  funext d S
  exact on_iteB' _ _ _ _
theorem von_opE' (fo : F2) (fa fb : Ev) : (eOp fo fa fb e S).on K E = (fa e S).on (fun x S => (fb e S).on (fun y S => So' (fo x y S) fun d => K d S) E) E := by
  refine (on_bind' _ _ _ _).trans ?_
  congr 1
  funext d S
  refine (on_bind' _ _ _ _).trans ?_
  congr 1
  funext d' S
  exact on_of' _ _ _ _
theorem von_tV' (fa : Ev) (K : Bool → Sto → Prop) : (tV fa e S).on K E = (fa e S).on (fun d S => So' (asB d) fun b => K b S) E := by
  refine (on_bind' _ _ _ _).trans ?_
  congr 1
  funext d S
  exact on_of' _ _ _ _
theorem von_chain' (fo fo' : F2) (fa fb fc : Ev) : (eChain fo fo' fa fb fc e S).on K E = (fa e S).on (fun x S => (fb e S).on (fun y S => So' (fo x y S) fun d => So' (asB d) fun k => if k = true then (fc e S).on (fun z S => So' (fo' y z S) fun d => K d S) E else K (.bl false) S) E) E := by
  refine (on_bind' _ _ _ _).trans ?_
  congr 1
  funext x S
  refine (on_bind' _ _ _ _).trans ?_
  congr 1
  funext y S
  refine (on_bind' _ _ _ _).trans ?_
  refine (on_of' _ _ _ _).trans ?_
  refine (so_bind' _ _ _).trans ?_
  congr 1
  funext d
  congr 1
  funext k
  refine (on_ite' _ _ _ _ _).trans ?_
  rw [on_bind']
  congr 2
  funext z S
  exact on_of' _ _ _ _
theorem von_tAn' (t u : Tv) (K : Bool → Sto → Prop) : (tAn t u e S).on K E = (t e S).on (fun c S => if c = true then (u e S).on K E else K false S) E := by
  refine (on_bind' _ _ _ _).trans ?_
  congr 1
  funext c S
  exact on_ite' _ _ _ _ _
theorem von_tOr' (t u : Tv) (K : Bool → Sto → Prop) : (tOr' t u e S).on K E = (t e S).on (fun c S => if c = true then K true S else (u e S).on K E) E := by
  refine (on_bind' _ _ _ _).trans ?_
  congr 1
  funext c S
  exact on_ite' _ _ _ _ _
theorem von_tNo' (t : Tv) (K : Bool → Sto → Prop) : (tNo t e S).on K E = (t e S).on (fun c S => K (!c) S) E := on_bind' _ _ _ _
theorem von_and' (fa fb : Ev) : (eAnd fa fb e S).on K E = (fa e S).on (fun x S => So' (asB x) fun c => if c = true then (fb e S).on K E else K (.bl false) S) E := by
  refine (on_bind' _ _ _ _).trans ?_
  congr 1
  funext x S
  refine (on_bind' _ _ _ _).trans ?_
  refine (on_of' _ _ _ _).trans ?_
  congr 1
  funext c
  exact on_ite' _ _ _ _ _
theorem von_or' (fa fb : Ev) : (eOr fa fb e S).on K E = (fa e S).on (fun x S => So' (asB x) fun c => if c = true then K (.bl true) S else (fb e S).on K E) E := by
  refine (on_bind' _ _ _ _).trans ?_
  congr 1
  funext x S
  refine (on_bind' _ _ _ _).trans ?_
  refine (on_of' _ _ _ _).trans ?_
  congr 1
  funext c
  exact on_ite' _ _ _ _ _
theorem von_not' (fa : Ev) : (eNot fa e S).on K E = (fa e S).on (fun x S => So' (asB x) fun c => K (.bl (!c)) S) E := by
  refine (on_bind' _ _ _ _).trans ?_
  congr 1
  funext x S
  refine (on_bind' _ _ _ _).trans ?_
  exact on_of' _ _ _ _
theorem von_eIf' (t : Tv) (fa fb : Ev) : (eIf t fa fb e S).on K E = (t e S).on (fun c S => if c = true then (fa e S).on K E else (fb e S).on K E) E := by
  refine (on_bind' _ _ _ _).trans ?_
  congr 1
  funext c S
  exact on_ite' _ _ _ _ _
theorem von_call' (n : Nat) (m : Fn) (dds : List D) (fr : Av) : (eCall n m dds fr e S).on K E = (fr e S).on (fun ds S => (ds ++ dds).length = n ∧ (m (ds ++ dds) S).on K E) E := by
  refine (on_bind' _ _ _ _).trans ?_
  congr 1
  funext ds S
  exact on_iteB' _ _ _ _
theorem von_callD' (np nk N : Nat) (m : Fn) (gD : List D → List D → List D) (fr fk : Av) : (eCallD np nk N m gD fr fk e S).on K E = (fr e S).on (fun ds S => (fk e S).on (fun zs S => ((ds.length = np ∧ zs.length = nk) ∧ (gD ds zs).length = N) ∧ (m (gD ds zs) S).on K E) E) E := by
  refine (on_bind' _ _ _ _).trans ?_
  congr 1
  funext ds S
  refine (on_bind' _ _ _ _).trans ?_
  congr 1
  funext zs S
  exact on_iteB' _ _ _ _
theorem von_CB' (fo : FL) (fr : Av) : (eCB fo fr e S).on K E = (fr e S).on (fun ds S => So' (fo ds S) fun d => K d S) E := by
  refine (on_bind' _ _ _ _).trans ?_
  congr 1
  funext ds S
  exact on_of' _ _ _ _
theorem von_isi' (T : Ty) (fa : Ev) : (eIsi T fa e S).on K E = (fa e S).on (fun d S => So' (isK T (der S d)) fun b => K (.bl b) S) E := by
  refine (on_bind' _ _ _ _).trans ?_
  congr 1
  funext ds S
  rw [on_of', so_map']
theorem von_isis' (Ts : List Ty) (fa : Ev) : (eIsis Ts fa e S).on K E = (fa e S).on (fun d S => So' (isKs (der S d) Ts) fun b => K (.bl b) S) E := by
  refine (on_bind' _ _ _ _).trans ?_
  congr 1
  funext ds S
  rw [on_of', so_map']
theorem von_pNo' (K : Option Int → Sto → Prop) : (pNo e S).on K E = K none S := rfl
theorem von_pSo' (fa : Ev) (K : Option Int → Sto → Prop) : (pSo fa e S).on K E = (fa e S).on (fun d S => match d with | .int i => K (some i) S | _ => False) E := by
  refine (on_bind' _ _ _ _).trans ?_
  congr 1
  funext d S
  cases d <;> rfl
theorem von_sl' (fa : Ev) (fl fh : DL.Env → Sto → Ret (Option Int)) : (eSl fa fl fh e S).on K E = (fa e S).on (fun d S => (fl e S).on (fun lo S => (fh e S).on (fun hi S => So' (opSl d lo hi S) fun x => K x S) E) E) E := by
  refine (on_bind' _ _ _ _).trans ?_
  congr 1
  funext d S
  refine (on_bind' _ _ _ _).trans ?_
  congr 1
  funext lo S
  refine (on_bind' _ _ _ _).trans ?_
  congr 1
  funext hi S
  exact on_of' _ _ _ _
theorem von_fmt' (fa : Ev) : (eFmt fa e S).on K E = (fa e S).on (fun d S => So' (fmtD S d) fun x => K (.str x) S) E := by
  refine (on_bind' _ _ _ _).trans ?_
  congr 1
  funext d S
  rw [on_of', so_map']
theorem von_joined' (fs : List Ev) : (eJoined fs e S).on K E = (runJ fs Str.empty e S).on K E := rfl
theorem von_runJ0' (acc : Str) : (runJ [] acc e S).on K E = K (.str acc) S := rfl
theorem von_runJ1' (f : Ev) (fs : List Ev) (acc : Str) : (runJ (f :: fs) acc e S).on K E = (f e S).on (fun d S => match d with | .str y => (acc ++ y).length ≤ LN ∧ (runJ fs (acc ++ y) e S).on K E | _ => False) E := by
  refine (on_bind' _ _ _ _).trans ?_
  congr 1
  funext d S
  cases d <;> first | rfl | exact on_iteB' _ _ _ _
theorem von_M1' (fo : D → D → Option D) (fa fb : Ev) : (eM1 fo fa fb e S).on K E = (fa e S).on (fun d S => match d with | .str a => (fb e S).on (fun d2 S => So' (fo (.str a) d2) fun x => K x S) E | _ => False) E := by
  refine (on_bind' _ _ _ _).trans ?_
  congr 1
  funext d S
  cases d <;> try rfl
  refine (on_bind' _ _ _ _).trans ?_
  congr 1
  funext d S
  exact on_of' _ _ _ _
theorem von_append' (fo fa : Ev) : (eAppend fo fa e S).on K E = (fo e S).on (fun o S => (lstAt S o).isSome = true ∧ (fa e S).on (fun d S => So' (lstAt S o) fun p => p.2.length < LN ∧ K .non (S.set p.1 (.lst (p.2 ++ [d])))) E) E := by
  refine (on_bind' _ _ _ _).trans ?_
  congr 1
  funext o S
  refine (on_iteB' _ _ _ _).trans ?_
  congr 1
  refine (on_bind' _ _ _ _).trans ?_
  congr 1
  funext d S
  cases lstAt S o with
  | none => rfl
  | some p => exact on_iteB' _ _ _ _
theorem von_frz' (fa : Ev) : (eFrz fa e S).on K E = (fa e S).on (fun d S => So' (MO.ofLoc S d) fun p => K p.2.val (S.set p.1 .dead)) E := by
  refine (on_bind' _ _ _ _).trans ?_
  congr 1
  funext d S
  cases MO.ofLoc S d <;> rfl
theorem von_iOf' (p : D → Option (List D)) (fa : Ev) (K : List D → Sto → Prop) : (iOf p fa e S).on K E = (fa e S).on (fun d S => So' (p d) fun ds => K ds S) E := by
  refine (on_bind' _ _ _ _).trans ?_
  congr 1
  funext d S
  exact on_of' _ _ _ _
theorem von_iR1' (fa : Ev) (K : List D → Sto → Prop) : (iR1 fa e S).on K E = (fa e S).on (fun d S => match d with | .int j => (-(2 ^ 62) ≤ j ∧ j < 2 ^ 62) ∧ K (rngL 0 j.toNat) S | _ => False) E := by
  refine (on_bind' _ _ _ _).trans ?_
  congr 1
  funext d S
  cases d <;> first | rfl | exact on_iteB' _ _ _ _
theorem von_iR2' (fa fb : Ev) (K : List D → Sto → Prop) : (iR2 fa fb e S).on K E = (fa e S).on (fun d S => (fb e S).on (fun d' S => match d, d' with | .int i, .int j => (-(2 ^ 62) ≤ i ∧ i < 2 ^ 62 ∧ -(2 ^ 62) ≤ j ∧ j < 2 ^ 62) ∧ K (rngL i (j - i).toNat) S | _, _ => False) E) E := by
  refine (on_bind' _ _ _ _).trans ?_
  congr 1
  funext d S
  refine (on_bind' _ _ _ _).trans ?_
  congr 1
  funext d' S
  cases d <;> first | rfl | (cases d' <;> first | rfl | exact on_iteB' _ _ _ _)
theorem von_lc' (fi : Av) (G : Gv) (ft : Tv) (fe : Ev) (vs : List Nat) : (eLc fi G ft fe vs e S).on K E = (fi e S).on (fun ds S => ds.length ≤ LN ∧ (lcRun G ft fe vs (wipeE e vs) ds S).on (fun ys S => K (.lst ys) S) (fun _ _ => False)) E := by
  refine (on_bind' _ _ _ _).trans ?_
  congr 1
  funext ds S
  refine (on_iteB' _ _ _ _).trans ?_
  congr 1
  refine (on_noE' _ _ _).trans ?_
  refine (on_bind' _ _ _ _).trans ?_
  congr 1
theorem von_dct' (ks : List Key) (fs : List Ev) : (eDct ks fs e S).on K E = (aList fs e S).on (fun ds S => (ks.Nodup ∧ ks.length ≤ 15) ∧ K (.dct ((ks.map keyD).zip ds)) S) E := by
  refine (on_bind' _ _ _ _).trans ?_
  congr 1
  funext ds S
  exact on_iteB' _ _ _ _
end
/-! ### the same, closed -/
@[irreducible] def So {α : Type} (o : Option α) (P : α → Prop) : Prop := So' o P
@[irreducible] def Ret.oo {α : Type} (r : Ret α) (K : α → Sto → Prop) (E : Exc → Sto → Prop) : Prop := r.on K E
@[irreducible] def Out.oo (o : Out) (P : Po) : Prop := o.on P
theorem so_eq {α : Type} (o : Option α) (P : α → Prop) : So o P = So' o P := by unfold So; rfl
theorem oo_eq {α : Type} (r : Ret α) (K : α → Sto → Prop) (E : Exc → Sto → Prop) : r.oo K E = r.on K E := by unfold Ret.oo; rfl
theorem ooS_eq (o : Out) (P : Po) : o.oo P = o.on P := by unfold Out.oo; rfl
theorem so_congr {α : Type} {o o' : Option α} {P : α → Prop} (h : o = o') : So o P = So o' P := by rw [h]
theorem on_congr {α : Type} {o o' : Ret α} {K : α → Sto → Prop} {E : Exc → Sto → Prop} (h : o = o') : o.oo K E = o'.oo K E := by rw [h]
theorem son_congr {o o' : Out} {P : Po} (h : o = o') : o.oo P = o'.oo P := by rw [h]
theorem So.mono {α : Type} {o : Option α} {P Q : α → Prop} (h : So o P) (m : ∀ a, P a → Q a) : So o Q := by
  rw [so_eq] at h ⊢
  exact So'.mono h m
theorem Ret.oo_mono {α : Type} {r : Ret α} {K K' : α → Sto → Prop} {E E' : Exc → Sto → Prop} (h : r.oo K E) (hK : ∀ a S, K a S → K' a S) (hE : ∀ e S, E e S → E' e S) : r.oo K' E' := by
  rw [oo_eq] at h ⊢
  exact Ret.on_mono h hK hE
theorem so_some {α : Type} (a : α) (P : α → Prop) : So (some a) P = P a := by
  simp only [so_eq, oo_eq, ooS_eq]
  apply so_some'
theorem so_none {α : Type} (P : α → Prop) : So none P = False := by
  simp only [so_eq, oo_eq, ooS_eq]
  apply so_none'
theorem so_bind {α β : Type} (o : Option α) (f : α → Option β) (P : β → Prop) : So (o.bind f) P = So o (fun a => So (f a) P) := by
  simp only [so_eq, oo_eq, ooS_eq]
  apply so_bind'
theorem so_map {α β : Type} (o : Option α) (f : α → β) (P : β → Prop) : So (o.map f) P = So o (fun a => P (f a)) := by
  simp only [so_eq, oo_eq, ooS_eq]
  apply so_map'
theorem so_ite {α : Type} (c : Prop) {inst : Decidable c} (a : Option α) (P : α → Prop) : So (if c then a else none) P = (c ∧ So a P) := by
  simp only [so_eq, oo_eq, ooS_eq]
  apply so_ite'
section
variable {α β : Type} {K : α → Sto → Prop} {E : Exc → Sto → Prop}
theorem on_ok (a : α) (S : Sto) (K : α → Sto → Prop) (E : Exc → Sto → Prop) : (Ret.ok a S).oo K E = K a S := by
  simp only [so_eq, oo_eq, ooS_eq]
  apply on_ok'
theorem on_exc (x : Exc) (S : Sto) (K : α → Sto → Prop) (E : Exc → Sto → Prop) : (Ret.exc x S : Ret α).oo K E = E x S := by
  simp only [so_eq, oo_eq, ooS_eq]
  apply on_exc'
theorem on_bad (K : α → Sto → Prop) (E : Exc → Sto → Prop) : (Ret.bad : Ret α).oo K E = False := by
  simp only [so_eq, oo_eq, ooS_eq]
  apply on_bad'
theorem on_bind (r : Ret α) (k : α → Sto → Ret β) (K : β → Sto → Prop) (E : Exc → Sto → Prop) : (r.bind k).oo K E = r.oo (fun a S => (k a S).oo K E) E := by
  simp only [so_eq, oo_eq, ooS_eq]
  apply on_bind'
theorem on_of (o : Option α) (S : Sto) (K : α → Sto → Prop) (E : Exc → Sto → Prop) : (Ret.of o S).oo K E = So o (fun a => K a S) := by
  simp only [so_eq, oo_eq, ooS_eq]
  apply on_of'
theorem on_ite (c : Prop) {inst : Decidable c} (a b : Ret α) (K : α → Sto → Prop) (E : Exc → Sto → Prop) : (if c then a else b).oo K E = (if c then a.oo K E else b.oo K E) := by
  simp only [so_eq, oo_eq, ooS_eq]
  apply on_ite'
theorem on_iteB (c : Prop) {inst : Decidable c} (a : Ret α) (K : α → Sto → Prop) (E : Exc → Sto → Prop) : (if c then a else .bad).oo K E = (c ∧ a.oo K E) := by
  simp only [so_eq, oo_eq, ooS_eq]
  apply on_iteB'
theorem on_noE (r : Ret D) (K : D → Sto → Prop) (E : Exc → Sto → Prop) : (lcNo r).oo K E = r.oo K (fun _ _ => False) := by
  simp only [so_eq, oo_eq, ooS_eq]
  apply on_noE'
end
theorem on_into {α : Type} (r : Ret α) (e : Env) (k : α → Sto → Out) (P : Po) : (r.into e k).oo P = r.oo (fun a S => (k a S).oo P) (fun x S => P.ex x e S) := by
  simp only [so_eq, oo_eq, ooS_eq]
  apply on_into'
theorem son_ite (c : Prop) {inst : Decidable c} (a b : Out) (P : Po) : (if c then a else b).oo P = (if c then a.oo P else b.oo P) := by
  simp only [so_eq, oo_eq, ooS_eq]
  apply son_ite'
theorem son_nx (e : Env) (S : Sto) (P : Po) : (Out.nx e S).oo P = P.nx e S := by
  simp only [so_eq, oo_eq, ooS_eq]
  apply son_nx'
theorem son_rt (d : D) (S : Sto) (P : Po) : (Out.rt d S).oo P = P.rt d S := by
  simp only [so_eq, oo_eq, ooS_eq]
  apply son_rt'
theorem son_bk (e : Env) (S : Sto) (P : Po) : (Out.bk e S).oo P = P.bk e S := by
  simp only [so_eq, oo_eq, ooS_eq]
  apply son_bk'
theorem son_ct (e : Env) (S : Sto) (P : Po) : (Out.ct e S).oo P = P.ct e S := by
  simp only [so_eq, oo_eq, ooS_eq]
  apply son_ct'
theorem son_exc (x : Exc) (e : Env) (S : Sto) (P : Po) : (Out.exc x e S).oo P = P.ex x e S := by
  simp only [so_eq, oo_eq, ooS_eq]
  apply son_exc'
theorem son_bad (P : Po) : Out.bad.oo P = False := by
  simp only [so_eq, oo_eq, ooS_eq]
  apply son_bad'
theorem on_runB (k : Nat) (f : Sv) (ds : List D) (S : Sto) (K : D → Sto → Prop) (E : Exc → Sto → Prop) : (runB k f ds S).oo K E = (f (start0 k ds) S).oo (Po.fn K E) := by
  simp only [so_eq, oo_eq, ooS_eq]
  apply on_runB'
section
variable (e : Env) (S : Sto) (P : Po) (K : D → Sto → Prop) (E : Exc → Sto → Prop)
theorem von_nil : (sNil e S).oo P = P.nx e S := by
  simp only [so_eq, oo_eq, ooS_eq]
  apply von_nil'
theorem von_pass : (sPass e S).oo P = P.nx e S := by
  simp only [so_eq, oo_eq, ooS_eq]
  apply von_pass'
theorem von_break : (sBreak e S).oo P = P.bk e S := by
  simp only [so_eq, oo_eq, ooS_eq]
  apply von_break'
theorem von_cont : (sCont e S).oo P = P.ct e S := by
  simp only [so_eq, oo_eq, ooS_eq]
  apply von_cont'
theorem von_retN : (sRetN e S).oo P = P.rt .non S := by
  simp only [so_eq, oo_eq, ooS_eq]
  apply von_retN'
theorem von_seq (f u : Sv) : (sSeq f u e S).oo P = (f e S).oo (P.to fun e S => (u e S).oo P) := by
  simp only [so_eq, oo_eq, ooS_eq]
  apply von_seq'
theorem von_expr (fa : Ev) : (sExpr fa e S).oo P = (fa e S).oo (fun _ S => P.nx e S) (fun x S => P.ex x e S) := by
  simp only [so_eq, oo_eq, ooS_eq]
  apply von_expr'
theorem von_ret (fa : Ev) : (sRet fa e S).oo P = (fa e S).oo (fun d S => P.rt d S) (fun x S => P.ex x e S) := by
  simp only [so_eq, oo_eq, ooS_eq]
  apply von_ret'
theorem von_if (t : Tv) (f u : Sv) : (sIf t f u e S).oo P = (t e S).oo (fun c S => if c = true then (f e S).oo P else (u e S).oo P) (fun x S => P.ex x e S) := by
  simp only [so_eq, oo_eq, ooS_eq]
  apply von_if'
theorem von_set (i : Nat) (fa : Ev) : (sSet i fa e S).oo P = (fa e S).oo (fun d S => P.nx (e.set i (some d)) S) (fun x S => P.ex x e S) := by
  simp only [so_eq, oo_eq, ooS_eq]
  apply von_set'
theorem von_asg (fa : Ev) (G : Gv) : (sAsg fa G e S).oo P = (fa e S).oo (fun d S => So (G d e S) fun r => P.nx r.1 r.2) (fun x S => P.ex x e S) := by
  simp only [so_eq, oo_eq, ooS_eq]
  apply von_asg'
theorem von_par2 (i j : Nat) (fr : Av) : (sPar2 i j fr e S).oo P = (fr e S).oo (fun ds S => match ds with | [x, y] => P.nx ((e.set i (some x)).set j (some y)) S | _ => False) (fun x S => P.ex x e S) := by
  simp only [so_eq, oo_eq, ooS_eq]
  apply von_par2'
theorem von_par3 (i j l : Nat) (fr : Av) : (sPar3 i j l fr e S).oo P = (fr e S).oo (fun ds S => match ds with | [x, y, z] => P.nx (((e.set i (some x)).set j (some y)).set l (some z)) S | _ => False) (fun x S => P.ex x e S) := by
  simp only [so_eq, oo_eq, ooS_eq]
  apply von_par3'
theorem von_for (fi : Av) (G : Gv) (f : Sv) : (sFor fi G f e S).oo P = (fi e S).oo (fun ds S => (forL G f ds e S).oo P) (fun x S => P.ex x e S) := by
  simp only [so_eq, oo_eq, ooS_eq]
  apply von_for'
theorem von_var (i : Nat) : (eVar i e S).oo K E = So (e[i]?) (fun o => So o fun d => K d S) := by
  simp only [so_eq, oo_eq, ooS_eq]
  apply von_var'
theorem von_C (d : D) : (eC d e S).oo K E = K d S := by
  simp only [so_eq, oo_eq, ooS_eq]
  apply von_C'
theorem von_aNil (K : List D → Sto → Prop) : (aNil e S).oo K E = K [] S := by
  simp only [so_eq, oo_eq, ooS_eq]
  apply von_aNil'
theorem von_aCons (fa : Ev) (fr : Av) (K : List D → Sto → Prop) : (aCons fa fr e S).oo K E = (fa e S).oo (fun d S => (fr e S).oo (fun ds S => K (d :: ds) S) E) E := by
  simp only [so_eq, oo_eq, ooS_eq]
  apply von_aCons'
theorem von_tup (fr : Av) : (eTup fr e S).oo K E = (fr e S).oo (fun ds S => ds.length ≤ LN ∧ K (.tup ds) S) E := by
  simp only [so_eq, oo_eq, ooS_eq]
  apply von_tup'
theorem von_lst (fr : Av) : (eLst fr e S).oo K E = (fr e S).oo (fun ds S => ds.length ≤ LN ∧ K (.lst ds) S) E := by
  simp only [so_eq, oo_eq, ooS_eq]
  apply von_lst'
theorem von_lstM (fr : Av) : (eLstM fr e S).oo K E = (fr e S).oo (fun ds S => ds.length ≤ LN ∧ K (.loc S.length) (S ++ [.lst ds])) E := by
  simp only [so_eq, oo_eq, ooS_eq]
  apply von_lstM'
theorem von_opE (fo : F2) (fa fb : Ev) : (eOp fo fa fb e S).oo K E = (fa e S).oo (fun x S => (fb e S).oo (fun y S => So (fo x y S) fun d => K d S) E) E := by
  simp only [so_eq, oo_eq, ooS_eq]
  apply von_opE'
theorem von_tV (fa : Ev) (K : Bool → Sto → Prop) : (tV fa e S).oo K E = (fa e S).oo (fun d S => So (asB d) fun b => K b S) E := by
  simp only [so_eq, oo_eq, ooS_eq]
  apply von_tV'
theorem von_chain (fo fo' : F2) (fa fb fc : Ev) : (eChain fo fo' fa fb fc e S).oo K E = (fa e S).oo (fun x S => (fb e S).oo (fun y S => So (fo x y S) fun d => So (asB d) fun k => if k = true then (fc e S).oo (fun z S => So (fo' y z S) fun d => K d S) E else K (.bl false) S) E) E := by
  simp only [so_eq, oo_eq, ooS_eq]
  apply von_chain'
theorem von_tAn (t u : Tv) (K : Bool → Sto → Prop) : (tAn t u e S).oo K E = (t e S).oo (fun c S => if c = true then (u e S).oo K E else K false S) E := by
  simp only [so_eq, oo_eq, ooS_eq]
  apply von_tAn'
theorem von_tOr (t u : Tv) (K : Bool → Sto → Prop) : (tOr' t u e S).oo K E = (t e S).oo (fun c S => if c = true then K true S else (u e S).oo K E) E := by
  simp only [so_eq, oo_eq, ooS_eq]
  apply von_tOr'
theorem von_tNo (t : Tv) (K : Bool → Sto → Prop) : (tNo t e S).oo K E = (t e S).oo (fun c S => K (!c) S) E := by
  simp only [so_eq, oo_eq, ooS_eq]
  apply von_tNo'
theorem von_and (fa fb : Ev) : (eAnd fa fb e S).oo K E = (fa e S).oo (fun x S => So (asB x) fun c => if c = true then (fb e S).oo K E else K (.bl false) S) E := by
  simp only [so_eq, oo_eq, ooS_eq]
  apply von_and'
theorem von_or (fa fb : Ev) : (eOr fa fb e S).oo K E = (fa e S).oo (fun x S => So (asB x) fun c => if c = true then K (.bl true) S else (fb e S).oo K E) E := by
  simp only [so_eq, oo_eq, ooS_eq]
  apply von_or'
theorem von_not (fa : Ev) : (eNot fa e S).oo K E = (fa e S).oo (fun x S => So (asB x) fun c => K (.bl (!c)) S) E := by
  simp only [so_eq, oo_eq, ooS_eq]
  apply von_not'
theorem von_eIf (t : Tv) (fa fb : Ev) : (eIf t fa fb e S).oo K E = (t e S).oo (fun c S => if c = true then (fa e S).oo K E else (fb e S).oo K E) E := by
  simp only [so_eq, oo_eq, ooS_eq]
  apply von_eIf'
theorem von_call (n : Nat) (m : Fn) (dds : List D) (fr : Av) : (eCall n m dds fr e S).oo K E = (fr e S).oo (fun ds S => (ds ++ dds).length = n ∧ (m (ds ++ dds) S).oo K E) E := by
  simp only [so_eq, oo_eq, ooS_eq]
  apply von_call'
theorem von_callD (np nk N : Nat) (m : Fn) (gD : List D → List D → List D) (fr fk : Av) : (eCallD np nk N m gD fr fk e S).oo K E = (fr e S).oo (fun ds S => (fk e S).oo (fun zs S => ((ds.length = np ∧ zs.length = nk) ∧ (gD ds zs).length = N) ∧ (m (gD ds zs) S).oo K E) E) E := by
  simp only [so_eq, oo_eq, ooS_eq]
  apply von_callD'
theorem von_CB (fo : FL) (fr : Av) : (eCB fo fr e S).oo K E = (fr e S).oo (fun ds S => So (fo ds S) fun d => K d S) E := by
  simp only [so_eq, oo_eq, ooS_eq]
  apply von_CB'
theorem von_isi (T : Ty) (fa : Ev) : (eIsi T fa e S).oo K E = (fa e S).oo (fun d S => So (isK T (der S d)) fun b => K (.bl b) S) E := by
  simp only [so_eq, oo_eq, ooS_eq]
  apply von_isi'
theorem von_isis (Ts : List Ty) (fa : Ev) : (eIsis Ts fa e S).oo K E = (fa e S).oo (fun d S => So (isKs (der S d) Ts) fun b => K (.bl b) S) E := by
  simp only [so_eq, oo_eq, ooS_eq]
  apply von_isis'
theorem von_pNo (K : Option Int → Sto → Prop) : (pNo e S).oo K E = K none S := by
  simp only [so_eq, oo_eq, ooS_eq]
  apply von_pNo'
theorem von_pSo (fa : Ev) (K : Option Int → Sto → Prop) : (pSo fa e S).oo K E = (fa e S).oo (fun d S => match d with | .int i => K (some i) S | _ => False) E := by
  simp only [so_eq, oo_eq, ooS_eq]
  apply von_pSo'
theorem von_sl (fa : Ev) (fl fh : DL.Env → Sto → Ret (Option Int)) : (eSl fa fl fh e S).oo K E = (fa e S).oo (fun d S => (fl e S).oo (fun lo S => (fh e S).oo (fun hi S => So (opSl d lo hi S) fun x => K x S) E) E) E := by
  simp only [so_eq, oo_eq, ooS_eq]
  apply von_sl'
theorem von_fmt (fa : Ev) : (eFmt fa e S).oo K E = (fa e S).oo (fun d S => So (fmtD S d) fun x => K (.str x) S) E := by
  simp only [so_eq, oo_eq, ooS_eq]
  apply von_fmt'
theorem von_joined (fs : List Ev) : (eJoined fs e S).oo K E = (runJ fs Str.empty e S).oo K E := by
  simp only [so_eq, oo_eq, ooS_eq]
  apply von_joined'
theorem von_runJ0 (acc : Str) : (runJ [] acc e S).oo K E = K (.str acc) S := by
  simp only [so_eq, oo_eq, ooS_eq]
  apply von_runJ0'
theorem von_runJ1 (f : Ev) (fs : List Ev) (acc : Str) : (runJ (f :: fs) acc e S).oo K E = (f e S).oo (fun d S => match d with | .str y => (acc ++ y).length ≤ LN ∧ (runJ fs (acc ++ y) e S).oo K E | _ => False) E := by
  simp only [so_eq, oo_eq, ooS_eq]
  apply von_runJ1'
theorem von_M1 (fo : D → D → Option D) (fa fb : Ev) : (eM1 fo fa fb e S).oo K E = (fa e S).oo (fun d S => match d with | .str a => (fb e S).oo (fun d2 S => So (fo (.str a) d2) fun x => K x S) E | _ => False) E := by
  simp only [so_eq, oo_eq, ooS_eq]
  apply von_M1'
theorem von_append (fo fa : Ev) : (eAppend fo fa e S).oo K E = (fo e S).oo (fun o S => (lstAt S o).isSome = true ∧ (fa e S).oo (fun d S => So (lstAt S o) fun p => p.2.length < LN ∧ K .non (S.set p.1 (.lst (p.2 ++ [d])))) E) E := by
  simp only [so_eq, oo_eq, ooS_eq]
  apply von_append'
theorem von_frz (fa : Ev) : (eFrz fa e S).oo K E = (fa e S).oo (fun d S => So (MO.ofLoc S d) fun p => K p.2.val (S.set p.1 .dead)) E := by
  simp only [so_eq, oo_eq, ooS_eq]
  apply von_frz'
theorem von_iOf (p : D → Option (List D)) (fa : Ev) (K : List D → Sto → Prop) : (iOf p fa e S).oo K E = (fa e S).oo (fun d S => So (p d) fun ds => K ds S) E := by
  simp only [so_eq, oo_eq, ooS_eq]
  apply von_iOf'
theorem von_iR1 (fa : Ev) (K : List D → Sto → Prop) : (iR1 fa e S).oo K E = (fa e S).oo (fun d S => match d with | .int j => (-(2 ^ 62) ≤ j ∧ j < 2 ^ 62) ∧ K (rngL 0 j.toNat) S | _ => False) E := by
  simp only [so_eq, oo_eq, ooS_eq]
  apply von_iR1'
theorem von_iR2 (fa fb : Ev) (K : List D → Sto → Prop) : (iR2 fa fb e S).oo K E = (fa e S).oo (fun d S => (fb e S).oo (fun d' S => match d, d' with | .int i, .int j => (-(2 ^ 62) ≤ i ∧ i < 2 ^ 62 ∧ -(2 ^ 62) ≤ j ∧ j < 2 ^ 62) ∧ K (rngL i (j - i).toNat) S | _, _ => False) E) E := by
  simp only [so_eq, oo_eq, ooS_eq]
  apply von_iR2'
theorem von_lc (fi : Av) (G : Gv) (ft : Tv) (fe : Ev) (vs : List Nat) : (eLc fi G ft fe vs e S).oo K E = (fi e S).oo (fun ds S => ds.length ≤ LN ∧ (lcRun G ft fe vs (wipeE e vs) ds S).oo (fun ys S => K (.lst ys) S) (fun _ _ => False)) E := by
  simp only [so_eq, oo_eq, ooS_eq]
  apply von_lc'
theorem von_dct (ks : List Key) (fs : List Ev) : (eDct ks fs e S).oo K E = (aList fs e S).oo (fun ds S => (ks.Nodup ∧ ks.length ≤ 15) ∧ K (.dct ((ks.map keyD).zip ds)) S) E := by
  simp only [so_eq, oo_eq, ooS_eq]
  apply von_dct'
end
/-! ### walks -/
theorem forL_on' {G : Gv} {f : Sv} {P : Po} (I : List D → Env → Sto → Prop) : ∀ {ds : List D} {e : Env} {S : Sto}, I ds e S → (∀ e S, I [] e S → P.nx e S) →
    (∀ d ds e S, I (d :: ds) e S → So' (G d e S) fun r => (f r.1 r.2).on ⟨fun e S => I ds e S, P.rt, P.nx, fun e S => I ds e S, P.ex⟩) → (forL G f ds e S).on P
  | [], e, S, h, h0, _ => h0 e S h
  | d :: ds, e, S, h, h0, h1 => by
    have q := h1 d ds e S h
    unfold forL
    cases hg : G d e S with
    | none => rw [hg] at q; exact q
    | some r =>
      rw [hg] at q
      have q : (f r.1 r.2).on ⟨fun e S => I ds e S, P.rt, P.nx, fun e S => I ds e S, P.ex⟩ := q
      show Out.on (match f r.1 r.2 with | .nx e2 S2 => forL G f ds e2 S2 | .ct e2 S2 => forL G f ds e2 S2 | .bk e2 S2 => .nx e2 S2 | o => o) P
      cases hf : f r.1 r.2 with
      | nx e2 S2 => rw [hf] at q; exact forL_on' I (show I ds e2 S2 from q) h0 h1
      | ct e2 S2 => rw [hf] at q; exact forL_on' I (show I ds e2 S2 from q) h0 h1
      | bk e2 S2 => rw [hf] at q; exact q
      | rt d2 S2 => rw [hf] at q; exact q
      | exc x e2 S2 => rw [hf] at q; exact q
      | bad => rw [hf] at q; exact q
theorem forL_on {G : Gv} {f : Sv} {P : Po} (I : List D → Env → Sto → Prop) {ds : List D} {e : Env} {S : Sto} (h : I ds e S) (h0 : ∀ e S, I [] e S → P.nx e S)
    (h1 : ∀ d ds e S, I (d :: ds) e S → So (G d e S) fun r => (f r.1 r.2).oo ⟨fun e S => I ds e S, P.rt, P.nx, fun e S => I ds e S, P.ex⟩) : (forL G f ds e S).oo P := by
  rw [ooS_eq]
  refine forL_on' I h h0 fun d ds e S q => ?_
  have z := h1 d ds e S q
  simp only [so_eq, ooS_eq] at z
  exact z
/-- a comprehension's turn -/
theorem lcTurn_on {G : Gv} {ft : Tv} {fe : Ev} {vs : List Nat} {e0 : Env} {d : D} {S : Sto} {K : Option D → Sto → Prop} {E : Exc → Sto → Prop} :
    (lcTurn G ft fe vs e0 d S).oo K E = So (G d e0 S) fun r => (ft r.1 r.2).oo (fun k S1 => if k = true then (fe r.1 S1).oo (fun y S2 => K (some y) S2) E else K none S1) E := by
  unfold lcTurn
  cases G d e0 S with
  | none => rw [so_none]; exact on_bad K E
  | some r =>
    rw [so_some]
    show ((ft r.1 r.2).bind _).oo K E = _
    rw [on_bind]
    congr 1
    funext k S1
    rw [on_ite, on_bind, on_ok]
    simp only [on_ok]
/-- every item by itself, and nothing changes -/
theorem lcRun_map {G : Gv} {ft : Tv} {fe : Ev} {vs : List Nat} {e0 : Env} (F : D → Option D) : ∀ {ds : List D} {S : Sto}, (∀ d ∈ ds, lcTurn G ft fe vs e0 d S = .ok (F d) S) → lcRun G ft fe vs e0 ds S = .ok (ds.filterMap F) S
  | [], S, _ => rfl
  | d :: ds, S, h => by
    unfold lcRun
    rw [h d (List.mem_cons_self ..)]
    show (lcRun G ft fe vs e0 ds S).bind _ = _
    rw [lcRun_map F fun d hd => h d (List.mem_cons_of_mem _ hd), List.filterMap_cons]
    cases F d <;> rfl
theorem lcRun_on {G : Gv} {ft : Tv} {fe : Ev} {vs : List Nat} {e0 : Env} {E : Exc → Sto → Prop} (I : List D → List D → Sto → Prop) : ∀ {ds acc : List D} {S : Sto} {K : List D → Sto → Prop}, I ds acc S → (∀ ys S, I [] (acc ++ ys) S → K ys S) →
    (∀ d ds acc S, I (d :: ds) acc S → (lcTurn G ft fe vs e0 d S).oo (fun o S => I ds (addO acc o) S) E) → (lcRun G ft fe vs e0 ds S).oo K E
  | [], acc, S, K, h, h0, _ => by
    have q := h0 [] S (by rw [List.append_nil]; exact h)
    rw [← on_ok ([] : List D) S K E] at q
    exact q
  | d :: ds, acc, S, K, h, h0, h1 => by
    unfold lcRun
    rw [on_bind]
    refine Ret.oo_mono (h1 d ds acc S h) (fun o S q => ?_) fun _ _ q => q
    rw [on_bind]
    refine lcRun_on I q (fun ys S q2 => ?_) h1
    rw [on_ok]
    refine h0 _ _ ?_
    cases o with
    | none => exact q2
    | some y =>
      have e : acc ++ consO ys (some y) = addO acc (some y) ++ ys := by show acc ++ y :: ys = (acc ++ [y]) ++ ys; simp
      rw [e]; exact q2
/-- statement by statement: what comes next stays closed -/
theorem seq_i {f u : Sv} {e : Env} {S : Sto} {P : Po} (h : ∀ R : Env → Sto → Prop, (∀ e S, (u e S).oo P → R e S) → (f e S).oo (P.to R)) : (sSeq f u e S).oo P := by
  rw [von_seq]
  exact h _ fun _ _ q => q
theorem get0 {α : Type} (a : α) (l : List α) : (a :: l)[0]? = some a := rfl
theorem getS {α : Type} (a : α) (l : List α) (n : Nat) : (a :: l)[n + 1]? = l[n]? := rfl
theorem set0 {α : Type} (a b : α) (l : List α) : (a :: l).set 0 b = b :: l := rfl
theorem setS {α : Type} (a b : α) (l : List α) (n : Nat) : (a :: l).set (n + 1) b = a :: l.set n b := rfl
theorem start0_eq (k : Nat) (ds : List D) : start0 k ds = ds.map some ++ List.replicate (k - ds.length) none := rfl
theorem gvName_ap (i : Nat) (d : D) (e : Env) (S : Sto) : gvName i d e S = some (e.set i (some d), S) := rfl
theorem tYesV_ap (e : Env) (S : Sto) : tYesV e S = .ok true S := rfl
theorem asB_bl (b : Bool) : asB (.bl b) = some b := rfl
theorem der_non (S : Sto) : der S .non = .non := rfl
theorem der_bl (S : Sto) (b : Bool) : der S (.bl b) = .bl b := rfl
theorem der_int (S : Sto) (i : Int) : der S (.int i) = .int i := rfl
theorem der_str (S : Sto) (x : Str) : der S (.str x) = .str x := rfl
theorem der_tup (S : Sto) (x : List D) : der S (.tup x) = .tup x := rfl
theorem der_lst (S : Sto) (x : List D) : der S (.lst x) = .lst x := rfl
theorem der_dct (S : Sto) (x : List (D × D)) : der S (.dct x) = .dct x := rfl
theorem opAdd_int (i j : Int) (S : Sto) : opAdd (.int i) (.int j) S = some (.int (i + j)) := rfl
theorem opAdd_str (i j : Str) (S : Sto) : opAdd (.str i) (.str j) S = if i.length + j.length ≤ LN then some (.str (i ++ j)) else none := rfl
theorem opAdd_tup (i j : List D) (S : Sto) : opAdd (.tup i) (.tup j) S = if i.length + j.length ≤ LN then some (.tup (i ++ j)) else none := rfl
theorem opAdd_lst (i j : List D) (S : Sto) : opAdd (.lst i) (.lst j) S = if i.length + j.length ≤ LN then some (.lst (i ++ j)) else none := rfl
theorem opSub_int (i j : Int) (S : Sto) : opSub (.int i) (.int j) S = some (.int (i - j)) := rfl
theorem opMul_int (i j : Int) (S : Sto) : opMul (.int i) (.int j) S = if mulOk i j = true then some (.int (i * j)) else none := rfl
theorem opDiv_int (i j : Int) (S : Sto) : opDiv (.int i) (.int j) S = if 0 < j ∧ j < 1073741824 then some (.int (i / j)) else none := rfl
theorem opMod_int (i j : Int) (S : Sto) : opMod (.int i) (.int j) S = if 0 < j then some (.int (i % j)) else none := rfl
theorem opLt_int (i j : Int) (S : Sto) : opLt (.int i) (.int j) S = some (.bl (decide (i < j))) := rfl
theorem opLe_int (i j : Int) (S : Sto) : opLe (.int i) (.int j) S = some (.bl (decide (i ≤ j))) := rfl
theorem opGt_int (i j : Int) (S : Sto) : opGt (.int i) (.int j) S = some (.bl (decide (j < i))) := rfl
theorem opGe_int (i j : Int) (S : Sto) : opGe (.int i) (.int j) S = some (.bl (decide (j ≤ i))) := rfl
theorem opEq_int (i j : Int) (S : Sto) : opEq (.int i) (.int j) S = some (.bl (decide (i = j))) := by
  show (if eqOk (.int i) (.int j) = true then some (D.bl (PyData.eqv (.int i) (.int j))) else none) = _
  have e : PyData.eqv (.int i) (.int j) = decide (i = j) := by
    simp only [PyData.eqv]
    rw [Bool.eq_iff_iff]
    simp
  rw [e]; rfl
theorem opNe_int (i j : Int) (S : Sto) : opNe (.int i) (.int j) S = some (.bl (!decide (i = j))) := by
  show (if eqOk (.int i) (.int j) = true then some (D.bl (!PyData.eqv (.int i) (.int j))) else none) = _
  have e : PyData.eqv (.int i) (.int j) = decide (i = j) := by
    simp only [PyData.eqv]
    rw [Bool.eq_iff_iff]
    simp
  rw [e]; rfl
theorem opIx_tup (xs : List D) (i : Int) (S : Sto) : opIx (.tup xs) (.int i) S = atI xs i := rfl
theorem opIx_lst (xs : List D) (i : Int) (S : Sto) : opIx (.lst xs) (.int i) S = atI xs i := rfl
theorem opIx_loc {S : Sto} {b : Nat} {xs : List D} (h : S[b]? = some (.lst xs)) (i : Int) : opIx (.loc b) (.int i) S = atI xs i := by
  unfold opIx
  show (match der S (.loc b) with | .tup xs => atI xs i | .lst xs => atI xs i | .str z => if z.length ≤ LN then (atI z.cps.toList i).map fun c => .str ⟨#[c]⟩ else none | _ => none) = _
  have e : der S (.loc b) = .lst xs := by
    show (match S[b]? with | some .dead => D.loc b | some mo => mo.val | none => D.loc b) = _
    rw [h]; rfl
  rw [e]
theorem at0 {α : Type} (a : α) (l : List α) : atI (a :: l) 0 = some a := atI_nat (j := 0) rfl
theorem at1 {α : Type} (a b : α) (l : List α) : atI (a :: b :: l) 1 = some b := atI_nat (j := 1) rfl
theorem at2 {α : Type} (a b c : α) (l : List α) : atI (a :: b :: c :: l) 2 = some c := atI_nat (j := 2) rfl
theorem at3 {α : Type} (a b c d : α) (l : List α) : atI (a :: b :: c :: d :: l) 3 = some d := atI_nat (j := 3) rfl
theorem at4 {α : Type} (a b c d f : α) (l : List α) : atI (a :: b :: c :: d :: f :: l) 4 = some f := atI_nat (j := 4) rfl
theorem fInt_int (i : Int) (S : Sto) : fInt [.int i] S = some (.int i) := rfl
theorem fLen_tup (x : List D) (S : Sto) : fLen [.tup x] S = some (.int x.length) := rfl
theorem fLen_lst (x : List D) (S : Sto) : fLen [.lst x] S = some (.int x.length) := rfl
theorem fLen_dct (x : List (D × D)) (S : Sto) : fLen [.dct x] S = some (.int x.length) := rfl
theorem fLen_str (x : Str) (S : Sto) : fLen [.str x] S = if x.length ≤ LN then some (.int x.length) else none := rfl
theorem gvSub_var {i : Nat} {fi : Ev} {d : D} {e : Env} {S : Sto} : gvSub (eVar i) fi d e S = (e[i]?).bind fun o => o.bind fun o => match fi e S with
    | .ok (.int i) S => match lstAt S o with
      | some (l, ds) => (ixN ds.length i).bind fun j => some (e, S.set l (.lst (ds.set j d)))
      | none => none
    | _ => none := by
  unfold gvSub eVar
  rcases e[i]? with _ | _ | o <;> rfl
theorem lstAt_at {S : Sto} {b : Nat} {xs : List D} (h : S[b]? = some (.lst xs)) : lstAt S (.loc b) = some (b, xs) := by
  show (match S[b]? with | some (.lst ds) => some (b, ds) | _ => none) = _
  rw [h]
theorem ixN_nat {n j : Nat} (h : j < n) : ixN n (j : Int) = some j := by
  unfold ixN
  rw [if_pos (by omega), if_pos (by omega)]
  rfl
end DL

/-! DL14: what the laws draw with: bag, take, of, names, same, as mirrors, and what they give. -/
namespace PL
open PySem PySem.Spec PyProof.Rows L2 DL

def m_bag : Fn := runB 2 (sSeq (sSet 1 (eCB fList (aCons (eSl (eVar 0) pNo (pSo (eC (.int 63)))) aNil)))
  (sRet (eLstM (aCons (eVar 1) (aCons (eC (.int 0)) (aCons (eC (.int 0)) (aCons (eOp opAdd (eC (.int 12029)) (eOp opMul (eC (.int 31)) (eCB fLen (aCons (eVar 1) aNil)))) aNil)))))))
def m_take : Fn := runB 4 (sSeq (sIf (tAn (tV (eOp opEq (eOp opIx (eVar 0) (eC (.int 2))) (eC (.int 0)))) (tV (eOp opLt (eOp opIx (eVar 0) (eC (.int 1))) (eCB fLen (aCons (eOp opIx (eVar 0) (eC (.int 0))) aNil))))) (sSeq (sSet 2 (eOp opIx (eOp opIx (eVar 0) (eC (.int 0))) (eOp opIx (eVar 0) (eC (.int 1)))))
  (sSeq (sAsg (eOp opAdd (eOp opIx (eVar 0) (eC (.int 1))) (eC (.int 1))) (gvSub (eVar 0) (eC (.int 1))))
  (sSeq (sAsg (eOp opMod (eCB fInt (aCons (eOp opAdd (eOp opAdd (eOp opMul (eOp opIx (eVar 0) (eC (.int 3))) (eC (.int 48271))) (eOp opMul (eOp opMod (eCB fInt (aCons (eVar 2) aNil)) (eC (.int 1000003))) (eC (.int 6151)))) (eC (.int 7919))) aNil)) (eC (.int 2147483629))) (gvSub (eVar 0) (eC (.int 3))))
  (sIf (tV (eOp opGe (eVar 2) (eOp opPow (eC (.int 10)) (eC (.int 18))))) (sAsg (eVar 2) (gvSub (eVar 0) (eC (.int 2)))) sNil)))) sNil)
  (sSeq (sIf (tV (eOp opGt (eOp opIx (eVar 0) (eC (.int 2))) (eC (.int 0)))) (sSeq (sSet 3 (eOp opMod (eCB fInt (aCons (eOp opIx (eVar 0) (eC (.int 2))) aNil)) (eVar 1)))
  (sSeq (sAsg (eOp opDiv (eOp opIx (eVar 0) (eC (.int 2))) (eVar 1)) (gvSub (eVar 0) (eC (.int 2))))
  (sRet (eVar 3)))) sNil)
  (sSeq (sAsg (eOp opMod (eCB fInt (aCons (eOp opAdd (eOp opAdd (eOp opMul (eOp opIx (eVar 0) (eC (.int 3))) (eOp opIx (eVar 0) (eC (.int 3)))) (eOp opMul (eOp opIx (eVar 0) (eC (.int 3))) (eC (.int 40692)))) (eC (.int 1231))) aNil)) (eC (.int 2147483629))) (gvSub (eVar 0) (eC (.int 3))))
  (sRet (eOp opMod (eCB fInt (aCons (eOp opAdd (eOp opDiv (eOp opIx (eVar 0) (eC (.int 3))) (eC (.int 97))) (eOp opMul (eOp opMod (eCB fInt (aCons (eOp opIx (eVar 0) (eC (.int 3))) aNil)) (eC (.int 7919))) (eC (.int 89)))) aNil)) (eVar 1))))))
def m_of : Fn := runB 2 (sRet (eOp opIx (eVar 1) (eCall 2 m_take [] (aCons (eVar 0) (aCons (eCB fLen (aCons (eVar 1) aNil)) aNil)))))

/-- the bag at place b -/
def Bag (S : Sto) (b : Nat) : Prop := ∃ (cells : List D) (i rest seed : Int), S[b]? = some (.lst [.lst cells, .int i, .int rest, .int seed]) ∧ (∀ c ∈ cells, ∃ z, c = .int z) ∧ 0 ≤ i ∧ 0 ≤ rest ∧ 0 ≤ seed ∧ seed < 2147483629
/-- from S to S2 nothing that was there is changed but the bag -/
structure Stp (b : Nat) (S S2 : Sto) : Prop where
  bag : Bag S2 b
  len : S.length ≤ S2.length
  old : ∀ l, l < S.length → l ≠ b → S2[l]? = S[l]?
theorem Bag.lt {S : Sto} {b : Nat} (h : Bag S b) : b < S.length := by
  obtain ⟨_, _, _, _, h, _⟩ := h
  exact (List.getElem?_eq_some_iff.mp h).1
theorem Stp.refl {S : Sto} {b : Nat} (h : Bag S b) : Stp b S S := ⟨h, Nat.le_refl _, fun _ _ _ => rfl⟩
theorem Stp.trans {S S1 S2 : Sto} {b : Nat} (h : Stp b S S1) (k : Stp b S1 S2) : Stp b S S2 :=
  ⟨k.bag, Nat.le_trans h.len k.len, fun l hl hb => (k.old l (Nat.lt_of_lt_of_le hl h.len) hb).trans (h.old l hl hb)⟩
theorem mulOk_small {i j : Int} (h0 : 0 ≤ i) (h : i < 2147483648) : mulOk i j = true := by
  unfold mulOk
  simp
  omega
theorem eC_ap (d : D) (e : DL.Env) (S : Sto) : eC d e S = .ok d S := rfl
theorem ix41 : ixN 4 1 = some 1 := rfl
theorem ix42 : ixN 4 2 = some 2 := rfl
theorem ix43 : ixN 4 3 = some 3 := rfl
theorem atI_mem {α : Type} {xs : List α} {i : Int} (h0 : 0 ≤ i) (h1 : i < xs.length) : ∃ x, atI xs i = some x ∧ x ∈ xs := by
  obtain ⟨n, rfl⟩ := Int.eq_ofNat_of_zero_le h0
  have hn : n < xs.length := by omega
  exact ⟨xs[n], atI_nat (List.getElem?_eq_getElem hn), List.getElem_mem hn⟩
theorem pow18 (S : Sto) : opPow (.int 10) (.int 18) S = some (.int 1000000000000000000) := rfl
/-- what the store holds at b, all else as it was -/
structure At (b : Nat) (S : Sto) (mo : MO) (S2 : Sto) : Prop where
  here : S2[b]? = some mo
  len : S2.length = S.length
  old : ∀ l, l ≠ b → S2[l]? = S[l]?
theorem At.refl {b : Nat} {S : Sto} {mo : MO} (h : S[b]? = some mo) : At b S mo S := ⟨h, rfl, fun _ _ => rfl⟩
theorem At.set {b : Nat} {S : Sto} {mo mo2 : MO} {S2 : Sto} (h : At b S mo S2) : At b S mo2 (S2.set b mo2) :=
  ⟨List.getElem?_set_self (List.getElem?_eq_some_iff.mp h.here).1, by rw [List.length_set]; exact h.len, fun l hl => by rw [List.getElem?_set_ne fun z => hl z.symm]; exact h.old l hl⟩
abbrev bagO (cells : List D) (i rest seed : Int) : MO := .lst [.lst cells, .int i, .int rest, .int seed]

theorem take_on {S : Sto} {b : Nat} {n : Int} {K : D → Sto → Prop} {E : Exc → Sto → Prop} (hB : Bag S b) (h0 : 0 < n) (h1 : n < 1073741824)
    (h : ∀ k S2, 0 ≤ k → k < n → Stp b S S2 → S2.length = S.length → K (.int k) S2) : (m_take [.loc b, .int n] S).oo K E := by
  obtain ⟨cells, i, rest, seed, hb, hc, hi, hr, hs0, hs1⟩ := hB
  have fin : ∀ {S2 : Sto} {i rest seed : Int}, At b S (bagO cells i rest seed) S2 → 0 ≤ i → 0 ≤ rest → 0 ≤ seed → seed < 2147483629 → Stp b S S2 :=
    fun a p q r s => ⟨⟨_, _, _, _, a.here, hc, p, q, r, s⟩, Nat.le_of_eq a.len.symm, fun l _ hl => a.old l hl⟩
  unfold m_take
  rw [on_runB]
  refine seq_i fun R hR => ?_
  have key : ∃ i2 rest2 seed2 S2 x, At b S (bagO cells i2 rest2 seed2) S2 ∧ 0 ≤ i2 ∧ 0 ≤ rest2 ∧ 0 ≤ seed2 ∧ seed2 < 2147483629 ∧ (R [some (.loc b), some (.int n), x, none] S2 → (sIf (tAn (tV (eOp opEq (eOp opIx (eVar 0) (eC (.int 2))) (eC (.int 0)))) (tV (eOp opLt (eOp opIx (eVar 0) (eC (.int 1))) (eCB fLen (aCons (eOp opIx (eVar 0) (eC (.int 0))) aNil))))) (sSeq (sSet 2 (eOp opIx (eOp opIx (eVar 0) (eC (.int 0))) (eOp opIx (eVar 0) (eC (.int 1)))))
  (sSeq (sAsg (eOp opAdd (eOp opIx (eVar 0) (eC (.int 1))) (eC (.int 1))) (gvSub (eVar 0) (eC (.int 1))))
  (sSeq (sAsg (eOp opMod (eCB fInt (aCons (eOp opAdd (eOp opAdd (eOp opMul (eOp opIx (eVar 0) (eC (.int 3))) (eC (.int 48271))) (eOp opMul (eOp opMod (eCB fInt (aCons (eVar 2) aNil)) (eC (.int 1000003))) (eC (.int 6151)))) (eC (.int 7919))) aNil)) (eC (.int 2147483629))) (gvSub (eVar 0) (eC (.int 3))))
  (sIf (tV (eOp opGe (eVar 2) (eOp opPow (eC (.int 10)) (eC (.int 18))))) (sAsg (eVar 2) (gvSub (eVar 0) (eC (.int 2)))) sNil)))) sNil (start0 4 [.loc b, .int n]) S).oo ((Po.fn K E).to R)) := by
    by_cases hif : rest = 0 ∧ i < cells.length
    · obtain ⟨c, hcell, hmem⟩ := atI_mem hi hif.2
      obtain ⟨z, rfl⟩ := hc c hmem
      have hz : 0 ≤ z % 1000003 := Int.emod_nonneg _ (by decide)
      have hz2 : z % 1000003 < 1000003 := Int.emod_lt_of_pos _ (by decide)
      obtain ⟨seed2, hsd⟩ : ∃ x, x = (seed * 48271 + z % 1000003 * 6151 + 7919) % 2147483629 := ⟨_, rfl⟩
      have hsd0 : 0 ≤ seed2 := hsd ▸ Int.emod_nonneg _ (by decide)
      have hsd1 : seed2 < 2147483629 := hsd ▸ Int.emod_lt_of_pos _ (by decide)
      have a1 : At b S (bagO cells (i + 1) rest seed) (S.set b (bagO cells (i + 1) rest seed)) := (At.refl hb).set
      have a2 : At b S (bagO cells (i + 1) rest seed2) ((S.set b (bagO cells (i + 1) rest seed)).set b (bagO cells (i + 1) rest seed2)) := a1.set
      have a3 : At b S (bagO cells (i + 1) z seed2) (((S.set b (bagO cells (i + 1) rest seed)).set b (bagO cells (i + 1) rest seed2)).set b (bagO cells (i + 1) z seed2)) := a2.set
      by_cases hbig : 1000000000000000000 ≤ z
      · refine ⟨i + 1, z, seed2, _, some (.int z), a3, by omega, by omega, hsd0, hsd1, fun r => ?_⟩
        simp only [von_nil, von_pass, von_break, von_cont, von_retN, von_expr, von_ret, von_if, von_set, von_asg, von_par2, von_par3, von_for, von_var, von_C, von_aNil, von_aCons, von_tup, von_lst, von_lstM, von_opE, von_tV, von_chain, von_tAn, von_tOr, von_tNo, von_and, von_or, von_not, von_eIf, von_call, von_callD, von_CB, von_isi, von_isis, von_pNo, von_pSo, von_sl, von_fmt, von_joined, von_runJ0, von_runJ1, von_M1, von_append, von_frz, von_iOf, von_iR1, von_iR2, von_lc, von_dct, so_some, so_none, so_bind, so_map, so_ite, on_ok, on_exc, on_bad, on_of, on_ite, on_iteB, on_runB, son_ite, son_nx, son_rt, son_bk, son_ct, son_exc, son_bad, po_nx, po_rt, po_bk, po_ct, po_ex, Po.fn, start0_eq, asB_bl, der_non, der_bl, der_int, der_str, der_tup, der_lst, der_dct, opAdd_int, opAdd_str, opAdd_tup, opAdd_lst, opSub_int, opMul_int, opDiv_int, opMod_int, opLt_int, opLe_int, opGt_int, opGe_int, opEq_int, opNe_int, opIx_tup, opIx_lst, at0, at1, at2, at3, at4, fInt_int, fLen_tup, fLen_lst, fLen_dct, fLen_str, gvName_ap, tYesV_ap, gvSub_var, Option.bind_some, Option.map_some, get0, getS, set0, setS, List.getElem?_cons_zero, List.getElem?_cons_succ, List.set_cons_zero, List.set_cons_succ, List.map_cons, List.map_nil, List.length_cons, List.length_nil, List.replicate_succ, List.replicate_zero, List.cons_append, List.nil_append, List.append_nil, Nat.reduceAdd, Nat.reduceSub, Int.reduceSub, Int.reduceNeg, Int.reduceAdd, Nat.reduceMul, Nat.reduceLeDiff, LN, true_and, and_true, if_true, if_false, Bool.not_true, Bool.not_false, Bool.false_eq_true, reduceIte, decide_true, decide_false, opIx_loc hb, hif.1, hif.2]
        refine seq_i fun R2 h2 => ?_
        simp only [von_nil, von_pass, von_break, von_cont, von_retN, von_expr, von_ret, von_if, von_set, von_asg, von_par2, von_par3, von_for, von_var, von_C, von_aNil, von_aCons, von_tup, von_lst, von_lstM, von_opE, von_tV, von_chain, von_tAn, von_tOr, von_tNo, von_and, von_or, von_not, von_eIf, von_call, von_callD, von_CB, von_isi, von_isis, von_pNo, von_pSo, von_sl, von_fmt, von_joined, von_runJ0, von_runJ1, von_M1, von_append, von_frz, von_iOf, von_iR1, von_iR2, von_lc, von_dct, so_some, so_none, so_bind, so_map, so_ite, on_ok, on_exc, on_bad, on_of, on_ite, on_iteB, on_runB, son_ite, son_nx, son_rt, son_bk, son_ct, son_exc, son_bad, po_nx, po_rt, po_bk, po_ct, po_ex, Po.fn, start0_eq, asB_bl, der_non, der_bl, der_int, der_str, der_tup, der_lst, der_dct, opAdd_int, opAdd_str, opAdd_tup, opAdd_lst, opSub_int, opMul_int, opDiv_int, opMod_int, opLt_int, opLe_int, opGt_int, opGe_int, opEq_int, opNe_int, opIx_tup, opIx_lst, at0, at1, at2, at3, at4, fInt_int, fLen_tup, fLen_lst, fLen_dct, fLen_str, gvName_ap, tYesV_ap, gvSub_var, Option.bind_some, Option.map_some, get0, getS, set0, setS, List.getElem?_cons_zero, List.getElem?_cons_succ, List.set_cons_zero, List.set_cons_succ, List.map_cons, List.map_nil, List.length_cons, List.length_nil, List.replicate_succ, List.replicate_zero, List.cons_append, List.nil_append, List.append_nil, Nat.reduceAdd, Nat.reduceSub, Int.reduceSub, Int.reduceNeg, Int.reduceAdd, Nat.reduceMul, Nat.reduceLeDiff, LN, true_and, and_true, if_true, if_false, Bool.not_true, Bool.not_false, Bool.false_eq_true, reduceIte, decide_true, decide_false, opIx_loc hb, hcell]
        refine h2 _ _ ?_
        refine seq_i fun R2 h2 => ?_
        simp only [von_nil, von_pass, von_break, von_cont, von_retN, von_expr, von_ret, von_if, von_set, von_asg, von_par2, von_par3, von_for, von_var, von_C, von_aNil, von_aCons, von_tup, von_lst, von_lstM, von_opE, von_tV, von_chain, von_tAn, von_tOr, von_tNo, von_and, von_or, von_not, von_eIf, von_call, von_callD, von_CB, von_isi, von_isis, von_pNo, von_pSo, von_sl, von_fmt, von_joined, von_runJ0, von_runJ1, von_M1, von_append, von_frz, von_iOf, von_iR1, von_iR2, von_lc, von_dct, so_some, so_none, so_bind, so_map, so_ite, on_ok, on_exc, on_bad, on_of, on_ite, on_iteB, on_runB, son_ite, son_nx, son_rt, son_bk, son_ct, son_exc, son_bad, po_nx, po_rt, po_bk, po_ct, po_ex, Po.fn, start0_eq, asB_bl, der_non, der_bl, der_int, der_str, der_tup, der_lst, der_dct, opAdd_int, opAdd_str, opAdd_tup, opAdd_lst, opSub_int, opMul_int, opDiv_int, opMod_int, opLt_int, opLe_int, opGt_int, opGe_int, opEq_int, opNe_int, opIx_tup, opIx_lst, at0, at1, at2, at3, at4, fInt_int, fLen_tup, fLen_lst, fLen_dct, fLen_str, gvName_ap, tYesV_ap, gvSub_var, Option.bind_some, Option.map_some, get0, getS, set0, setS, List.getElem?_cons_zero, List.getElem?_cons_succ, List.set_cons_zero, List.set_cons_succ, List.map_cons, List.map_nil, List.length_cons, List.length_nil, List.replicate_succ, List.replicate_zero, List.cons_append, List.nil_append, List.append_nil, Nat.reduceAdd, Nat.reduceSub, Int.reduceSub, Int.reduceNeg, Int.reduceAdd, Nat.reduceMul, Nat.reduceLeDiff, LN, true_and, and_true, if_true, if_false, Bool.not_true, Bool.not_false, Bool.false_eq_true, reduceIte, decide_true, decide_false, opIx_loc hb, lstAt_at hb, eC_ap, ix41]
        refine h2 _ _ ?_
        refine seq_i fun R2 h2 => ?_
        simp only [von_nil, von_pass, von_break, von_cont, von_retN, von_expr, von_ret, von_if, von_set, von_asg, von_par2, von_par3, von_for, von_var, von_C, von_aNil, von_aCons, von_tup, von_lst, von_lstM, von_opE, von_tV, von_chain, von_tAn, von_tOr, von_tNo, von_and, von_or, von_not, von_eIf, von_call, von_callD, von_CB, von_isi, von_isis, von_pNo, von_pSo, von_sl, von_fmt, von_joined, von_runJ0, von_runJ1, von_M1, von_append, von_frz, von_iOf, von_iR1, von_iR2, von_lc, von_dct, so_some, so_none, so_bind, so_map, so_ite, on_ok, on_exc, on_bad, on_of, on_ite, on_iteB, on_runB, son_ite, son_nx, son_rt, son_bk, son_ct, son_exc, son_bad, po_nx, po_rt, po_bk, po_ct, po_ex, Po.fn, start0_eq, asB_bl, der_non, der_bl, der_int, der_str, der_tup, der_lst, der_dct, opAdd_int, opAdd_str, opAdd_tup, opAdd_lst, opSub_int, opMul_int, opDiv_int, opMod_int, opLt_int, opLe_int, opGt_int, opGe_int, opEq_int, opNe_int, opIx_tup, opIx_lst, at0, at1, at2, at3, at4, fInt_int, fLen_tup, fLen_lst, fLen_dct, fLen_str, gvName_ap, tYesV_ap, gvSub_var, Option.bind_some, Option.map_some, get0, getS, set0, setS, List.getElem?_cons_zero, List.getElem?_cons_succ, List.set_cons_zero, List.set_cons_succ, List.map_cons, List.map_nil, List.length_cons, List.length_nil, List.replicate_succ, List.replicate_zero, List.cons_append, List.nil_append, List.append_nil, Nat.reduceAdd, Nat.reduceSub, Int.reduceSub, Int.reduceNeg, Int.reduceAdd, Nat.reduceMul, Nat.reduceLeDiff, LN, true_and, and_true, if_true, if_false, Bool.not_true, Bool.not_false, Bool.false_eq_true, reduceIte, decide_true, decide_false, opIx_loc a1.here, lstAt_at a1.here, eC_ap, ix43, mulOk_small hs0 (Int.lt_trans hs1 (by decide)), mulOk_small hz (Int.lt_trans hz2 (by decide)), show (0 : Int) < 1000003 from by decide, show (0 : Int) < 2147483629 from by decide, ← hsd]
        refine h2 _ _ ?_
        simp only [von_nil, von_pass, von_break, von_cont, von_retN, von_expr, von_ret, von_if, von_set, von_asg, von_par2, von_par3, von_for, von_var, von_C, von_aNil, von_aCons, von_tup, von_lst, von_lstM, von_opE, von_tV, von_chain, von_tAn, von_tOr, von_tNo, von_and, von_or, von_not, von_eIf, von_call, von_callD, von_CB, von_isi, von_isis, von_pNo, von_pSo, von_sl, von_fmt, von_joined, von_runJ0, von_runJ1, von_M1, von_append, von_frz, von_iOf, von_iR1, von_iR2, von_lc, von_dct, so_some, so_none, so_bind, so_map, so_ite, on_ok, on_exc, on_bad, on_of, on_ite, on_iteB, on_runB, son_ite, son_nx, son_rt, son_bk, son_ct, son_exc, son_bad, po_nx, po_rt, po_bk, po_ct, po_ex, Po.fn, start0_eq, asB_bl, der_non, der_bl, der_int, der_str, der_tup, der_lst, der_dct, opAdd_int, opAdd_str, opAdd_tup, opAdd_lst, opSub_int, opMul_int, opDiv_int, opMod_int, opLt_int, opLe_int, opGt_int, opGe_int, opEq_int, opNe_int, opIx_tup, opIx_lst, at0, at1, at2, at3, at4, fInt_int, fLen_tup, fLen_lst, fLen_dct, fLen_str, gvName_ap, tYesV_ap, gvSub_var, Option.bind_some, Option.map_some, get0, getS, set0, setS, List.getElem?_cons_zero, List.getElem?_cons_succ, List.set_cons_zero, List.set_cons_succ, List.map_cons, List.map_nil, List.length_cons, List.length_nil, List.replicate_succ, List.replicate_zero, List.cons_append, List.nil_append, List.append_nil, Nat.reduceAdd, Nat.reduceSub, Int.reduceSub, Int.reduceNeg, Int.reduceAdd, Nat.reduceMul, Nat.reduceLeDiff, LN, true_and, and_true, if_true, if_false, Bool.not_true, Bool.not_false, Bool.false_eq_true, reduceIte, decide_true, decide_false, pow18, lstAt_at a2.here, eC_ap, ix42, hbig]
        exact r
      · refine ⟨i + 1, rest, seed2, _, some (.int z), a2, by omega, by omega, hsd0, hsd1, fun r => ?_⟩
        simp only [von_nil, von_pass, von_break, von_cont, von_retN, von_expr, von_ret, von_if, von_set, von_asg, von_par2, von_par3, von_for, von_var, von_C, von_aNil, von_aCons, von_tup, von_lst, von_lstM, von_opE, von_tV, von_chain, von_tAn, von_tOr, von_tNo, von_and, von_or, von_not, von_eIf, von_call, von_callD, von_CB, von_isi, von_isis, von_pNo, von_pSo, von_sl, von_fmt, von_joined, von_runJ0, von_runJ1, von_M1, von_append, von_frz, von_iOf, von_iR1, von_iR2, von_lc, von_dct, so_some, so_none, so_bind, so_map, so_ite, on_ok, on_exc, on_bad, on_of, on_ite, on_iteB, on_runB, son_ite, son_nx, son_rt, son_bk, son_ct, son_exc, son_bad, po_nx, po_rt, po_bk, po_ct, po_ex, Po.fn, start0_eq, asB_bl, der_non, der_bl, der_int, der_str, der_tup, der_lst, der_dct, opAdd_int, opAdd_str, opAdd_tup, opAdd_lst, opSub_int, opMul_int, opDiv_int, opMod_int, opLt_int, opLe_int, opGt_int, opGe_int, opEq_int, opNe_int, opIx_tup, opIx_lst, at0, at1, at2, at3, at4, fInt_int, fLen_tup, fLen_lst, fLen_dct, fLen_str, gvName_ap, tYesV_ap, gvSub_var, Option.bind_some, Option.map_some, get0, getS, set0, setS, List.getElem?_cons_zero, List.getElem?_cons_succ, List.set_cons_zero, List.set_cons_succ, List.map_cons, List.map_nil, List.length_cons, List.length_nil, List.replicate_succ, List.replicate_zero, List.cons_append, List.nil_append, List.append_nil, Nat.reduceAdd, Nat.reduceSub, Int.reduceSub, Int.reduceNeg, Int.reduceAdd, Nat.reduceMul, Nat.reduceLeDiff, LN, true_and, and_true, if_true, if_false, Bool.not_true, Bool.not_false, Bool.false_eq_true, reduceIte, decide_true, decide_false, opIx_loc hb, hif.1, hif.2]
        refine seq_i fun R2 h2 => ?_
        simp only [von_nil, von_pass, von_break, von_cont, von_retN, von_expr, von_ret, von_if, von_set, von_asg, von_par2, von_par3, von_for, von_var, von_C, von_aNil, von_aCons, von_tup, von_lst, von_lstM, von_opE, von_tV, von_chain, von_tAn, von_tOr, von_tNo, von_and, von_or, von_not, von_eIf, von_call, von_callD, von_CB, von_isi, von_isis, von_pNo, von_pSo, von_sl, von_fmt, von_joined, von_runJ0, von_runJ1, von_M1, von_append, von_frz, von_iOf, von_iR1, von_iR2, von_lc, von_dct, so_some, so_none, so_bind, so_map, so_ite, on_ok, on_exc, on_bad, on_of, on_ite, on_iteB, on_runB, son_ite, son_nx, son_rt, son_bk, son_ct, son_exc, son_bad, po_nx, po_rt, po_bk, po_ct, po_ex, Po.fn, start0_eq, asB_bl, der_non, der_bl, der_int, der_str, der_tup, der_lst, der_dct, opAdd_int, opAdd_str, opAdd_tup, opAdd_lst, opSub_int, opMul_int, opDiv_int, opMod_int, opLt_int, opLe_int, opGt_int, opGe_int, opEq_int, opNe_int, opIx_tup, opIx_lst, at0, at1, at2, at3, at4, fInt_int, fLen_tup, fLen_lst, fLen_dct, fLen_str, gvName_ap, tYesV_ap, gvSub_var, Option.bind_some, Option.map_some, get0, getS, set0, setS, List.getElem?_cons_zero, List.getElem?_cons_succ, List.set_cons_zero, List.set_cons_succ, List.map_cons, List.map_nil, List.length_cons, List.length_nil, List.replicate_succ, List.replicate_zero, List.cons_append, List.nil_append, List.append_nil, Nat.reduceAdd, Nat.reduceSub, Int.reduceSub, Int.reduceNeg, Int.reduceAdd, Nat.reduceMul, Nat.reduceLeDiff, LN, true_and, and_true, if_true, if_false, Bool.not_true, Bool.not_false, Bool.false_eq_true, reduceIte, decide_true, decide_false, opIx_loc hb, hcell]
        refine h2 _ _ ?_
        refine seq_i fun R2 h2 => ?_
        simp only [von_nil, von_pass, von_break, von_cont, von_retN, von_expr, von_ret, von_if, von_set, von_asg, von_par2, von_par3, von_for, von_var, von_C, von_aNil, von_aCons, von_tup, von_lst, von_lstM, von_opE, von_tV, von_chain, von_tAn, von_tOr, von_tNo, von_and, von_or, von_not, von_eIf, von_call, von_callD, von_CB, von_isi, von_isis, von_pNo, von_pSo, von_sl, von_fmt, von_joined, von_runJ0, von_runJ1, von_M1, von_append, von_frz, von_iOf, von_iR1, von_iR2, von_lc, von_dct, so_some, so_none, so_bind, so_map, so_ite, on_ok, on_exc, on_bad, on_of, on_ite, on_iteB, on_runB, son_ite, son_nx, son_rt, son_bk, son_ct, son_exc, son_bad, po_nx, po_rt, po_bk, po_ct, po_ex, Po.fn, start0_eq, asB_bl, der_non, der_bl, der_int, der_str, der_tup, der_lst, der_dct, opAdd_int, opAdd_str, opAdd_tup, opAdd_lst, opSub_int, opMul_int, opDiv_int, opMod_int, opLt_int, opLe_int, opGt_int, opGe_int, opEq_int, opNe_int, opIx_tup, opIx_lst, at0, at1, at2, at3, at4, fInt_int, fLen_tup, fLen_lst, fLen_dct, fLen_str, gvName_ap, tYesV_ap, gvSub_var, Option.bind_some, Option.map_some, get0, getS, set0, setS, List.getElem?_cons_zero, List.getElem?_cons_succ, List.set_cons_zero, List.set_cons_succ, List.map_cons, List.map_nil, List.length_cons, List.length_nil, List.replicate_succ, List.replicate_zero, List.cons_append, List.nil_append, List.append_nil, Nat.reduceAdd, Nat.reduceSub, Int.reduceSub, Int.reduceNeg, Int.reduceAdd, Nat.reduceMul, Nat.reduceLeDiff, LN, true_and, and_true, if_true, if_false, Bool.not_true, Bool.not_false, Bool.false_eq_true, reduceIte, decide_true, decide_false, opIx_loc hb, lstAt_at hb, eC_ap, ix41]
        refine h2 _ _ ?_
        refine seq_i fun R2 h2 => ?_
        simp only [von_nil, von_pass, von_break, von_cont, von_retN, von_expr, von_ret, von_if, von_set, von_asg, von_par2, von_par3, von_for, von_var, von_C, von_aNil, von_aCons, von_tup, von_lst, von_lstM, von_opE, von_tV, von_chain, von_tAn, von_tOr, von_tNo, von_and, von_or, von_not, von_eIf, von_call, von_callD, von_CB, von_isi, von_isis, von_pNo, von_pSo, von_sl, von_fmt, von_joined, von_runJ0, von_runJ1, von_M1, von_append, von_frz, von_iOf, von_iR1, von_iR2, von_lc, von_dct, so_some, so_none, so_bind, so_map, so_ite, on_ok, on_exc, on_bad, on_of, on_ite, on_iteB, on_runB, son_ite, son_nx, son_rt, son_bk, son_ct, son_exc, son_bad, po_nx, po_rt, po_bk, po_ct, po_ex, Po.fn, start0_eq, asB_bl, der_non, der_bl, der_int, der_str, der_tup, der_lst, der_dct, opAdd_int, opAdd_str, opAdd_tup, opAdd_lst, opSub_int, opMul_int, opDiv_int, opMod_int, opLt_int, opLe_int, opGt_int, opGe_int, opEq_int, opNe_int, opIx_tup, opIx_lst, at0, at1, at2, at3, at4, fInt_int, fLen_tup, fLen_lst, fLen_dct, fLen_str, gvName_ap, tYesV_ap, gvSub_var, Option.bind_some, Option.map_some, get0, getS, set0, setS, List.getElem?_cons_zero, List.getElem?_cons_succ, List.set_cons_zero, List.set_cons_succ, List.map_cons, List.map_nil, List.length_cons, List.length_nil, List.replicate_succ, List.replicate_zero, List.cons_append, List.nil_append, List.append_nil, Nat.reduceAdd, Nat.reduceSub, Int.reduceSub, Int.reduceNeg, Int.reduceAdd, Nat.reduceMul, Nat.reduceLeDiff, LN, true_and, and_true, if_true, if_false, Bool.not_true, Bool.not_false, Bool.false_eq_true, reduceIte, decide_true, decide_false, opIx_loc a1.here, lstAt_at a1.here, eC_ap, ix43, mulOk_small hs0 (Int.lt_trans hs1 (by decide)), mulOk_small hz (Int.lt_trans hz2 (by decide)), show (0 : Int) < 1000003 from by decide, show (0 : Int) < 2147483629 from by decide, ← hsd]
        refine h2 _ _ ?_
        simp only [von_nil, von_pass, von_break, von_cont, von_retN, von_expr, von_ret, von_if, von_set, von_asg, von_par2, von_par3, von_for, von_var, von_C, von_aNil, von_aCons, von_tup, von_lst, von_lstM, von_opE, von_tV, von_chain, von_tAn, von_tOr, von_tNo, von_and, von_or, von_not, von_eIf, von_call, von_callD, von_CB, von_isi, von_isis, von_pNo, von_pSo, von_sl, von_fmt, von_joined, von_runJ0, von_runJ1, von_M1, von_append, von_frz, von_iOf, von_iR1, von_iR2, von_lc, von_dct, so_some, so_none, so_bind, so_map, so_ite, on_ok, on_exc, on_bad, on_of, on_ite, on_iteB, on_runB, son_ite, son_nx, son_rt, son_bk, son_ct, son_exc, son_bad, po_nx, po_rt, po_bk, po_ct, po_ex, Po.fn, start0_eq, asB_bl, der_non, der_bl, der_int, der_str, der_tup, der_lst, der_dct, opAdd_int, opAdd_str, opAdd_tup, opAdd_lst, opSub_int, opMul_int, opDiv_int, opMod_int, opLt_int, opLe_int, opGt_int, opGe_int, opEq_int, opNe_int, opIx_tup, opIx_lst, at0, at1, at2, at3, at4, fInt_int, fLen_tup, fLen_lst, fLen_dct, fLen_str, gvName_ap, tYesV_ap, gvSub_var, Option.bind_some, Option.map_some, get0, getS, set0, setS, List.getElem?_cons_zero, List.getElem?_cons_succ, List.set_cons_zero, List.set_cons_succ, List.map_cons, List.map_nil, List.length_cons, List.length_nil, List.replicate_succ, List.replicate_zero, List.cons_append, List.nil_append, List.append_nil, Nat.reduceAdd, Nat.reduceSub, Int.reduceSub, Int.reduceNeg, Int.reduceAdd, Nat.reduceMul, Nat.reduceLeDiff, LN, true_and, and_true, if_true, if_false, Bool.not_true, Bool.not_false, Bool.false_eq_true, reduceIte, decide_true, decide_false, pow18, hbig]
        exact r
    · refine ⟨i, rest, seed, S, none, .refl hb, hi, hr, hs0, hs1, fun r => ?_⟩
      by_cases hr0 : rest = 0
      · have hi2 : ¬ i < cells.length := fun z => hif ⟨hr0, z⟩
        simp only [von_nil, von_pass, von_break, von_cont, von_retN, von_expr, von_ret, von_if, von_set, von_asg, von_par2, von_par3, von_for, von_var, von_C, von_aNil, von_aCons, von_tup, von_lst, von_lstM, von_opE, von_tV, von_chain, von_tAn, von_tOr, von_tNo, von_and, von_or, von_not, von_eIf, von_call, von_callD, von_CB, von_isi, von_isis, von_pNo, von_pSo, von_sl, von_fmt, von_joined, von_runJ0, von_runJ1, von_M1, von_append, von_frz, von_iOf, von_iR1, von_iR2, von_lc, von_dct, so_some, so_none, so_bind, so_map, so_ite, on_ok, on_exc, on_bad, on_of, on_ite, on_iteB, on_runB, son_ite, son_nx, son_rt, son_bk, son_ct, son_exc, son_bad, po_nx, po_rt, po_bk, po_ct, po_ex, Po.fn, start0_eq, asB_bl, der_non, der_bl, der_int, der_str, der_tup, der_lst, der_dct, opAdd_int, opAdd_str, opAdd_tup, opAdd_lst, opSub_int, opMul_int, opDiv_int, opMod_int, opLt_int, opLe_int, opGt_int, opGe_int, opEq_int, opNe_int, opIx_tup, opIx_lst, at0, at1, at2, at3, at4, fInt_int, fLen_tup, fLen_lst, fLen_dct, fLen_str, gvName_ap, tYesV_ap, gvSub_var, Option.bind_some, Option.map_some, get0, getS, set0, setS, List.getElem?_cons_zero, List.getElem?_cons_succ, List.set_cons_zero, List.set_cons_succ, List.map_cons, List.map_nil, List.length_cons, List.length_nil, List.replicate_succ, List.replicate_zero, List.cons_append, List.nil_append, List.append_nil, Nat.reduceAdd, Nat.reduceSub, Int.reduceSub, Int.reduceNeg, Int.reduceAdd, Nat.reduceMul, Nat.reduceLeDiff, LN, true_and, and_true, if_true, if_false, Bool.not_true, Bool.not_false, Bool.false_eq_true, reduceIte, decide_true, decide_false, opIx_loc hb, hr0, hi2]
        exact r
      · simp only [von_nil, von_pass, von_break, von_cont, von_retN, von_expr, von_ret, von_if, von_set, von_asg, von_par2, von_par3, von_for, von_var, von_C, von_aNil, von_aCons, von_tup, von_lst, von_lstM, von_opE, von_tV, von_chain, von_tAn, von_tOr, von_tNo, von_and, von_or, von_not, von_eIf, von_call, von_callD, von_CB, von_isi, von_isis, von_pNo, von_pSo, von_sl, von_fmt, von_joined, von_runJ0, von_runJ1, von_M1, von_append, von_frz, von_iOf, von_iR1, von_iR2, von_lc, von_dct, so_some, so_none, so_bind, so_map, so_ite, on_ok, on_exc, on_bad, on_of, on_ite, on_iteB, on_runB, son_ite, son_nx, son_rt, son_bk, son_ct, son_exc, son_bad, po_nx, po_rt, po_bk, po_ct, po_ex, Po.fn, start0_eq, asB_bl, der_non, der_bl, der_int, der_str, der_tup, der_lst, der_dct, opAdd_int, opAdd_str, opAdd_tup, opAdd_lst, opSub_int, opMul_int, opDiv_int, opMod_int, opLt_int, opLe_int, opGt_int, opGe_int, opEq_int, opNe_int, opIx_tup, opIx_lst, at0, at1, at2, at3, at4, fInt_int, fLen_tup, fLen_lst, fLen_dct, fLen_str, gvName_ap, tYesV_ap, gvSub_var, Option.bind_some, Option.map_some, get0, getS, set0, setS, List.getElem?_cons_zero, List.getElem?_cons_succ, List.set_cons_zero, List.set_cons_succ, List.map_cons, List.map_nil, List.length_cons, List.length_nil, List.replicate_succ, List.replicate_zero, List.cons_append, List.nil_append, List.append_nil, Nat.reduceAdd, Nat.reduceSub, Int.reduceSub, Int.reduceNeg, Int.reduceAdd, Nat.reduceMul, Nat.reduceLeDiff, LN, true_and, and_true, if_true, if_false, Bool.not_true, Bool.not_false, Bool.false_eq_true, reduceIte, decide_true, decide_false, opIx_loc hb, hr0]
        exact r
  obtain ⟨i2, rest2, seed2, S2, x, a, hi2, hr2, hs2, hs3, hk⟩ := key
  refine hk (hR _ _ ?_)
  clear hk hR R
  refine seq_i fun R hR => ?_
  by_cases hp : 0 < rest2
  · simp only [von_nil, von_pass, von_break, von_cont, von_retN, von_expr, von_ret, von_if, von_set, von_asg, von_par2, von_par3, von_for, von_var, von_C, von_aNil, von_aCons, von_tup, von_lst, von_lstM, von_opE, von_tV, von_chain, von_tAn, von_tOr, von_tNo, von_and, von_or, von_not, von_eIf, von_call, von_callD, von_CB, von_isi, von_isis, von_pNo, von_pSo, von_sl, von_fmt, von_joined, von_runJ0, von_runJ1, von_M1, von_append, von_frz, von_iOf, von_iR1, von_iR2, von_lc, von_dct, so_some, so_none, so_bind, so_map, so_ite, on_ok, on_exc, on_bad, on_of, on_ite, on_iteB, on_runB, son_ite, son_nx, son_rt, son_bk, son_ct, son_exc, son_bad, po_nx, po_rt, po_bk, po_ct, po_ex, Po.fn, start0_eq, asB_bl, der_non, der_bl, der_int, der_str, der_tup, der_lst, der_dct, opAdd_int, opAdd_str, opAdd_tup, opAdd_lst, opSub_int, opMul_int, opDiv_int, opMod_int, opLt_int, opLe_int, opGt_int, opGe_int, opEq_int, opNe_int, opIx_tup, opIx_lst, at0, at1, at2, at3, at4, fInt_int, fLen_tup, fLen_lst, fLen_dct, fLen_str, gvName_ap, tYesV_ap, gvSub_var, Option.bind_some, Option.map_some, get0, getS, set0, setS, List.getElem?_cons_zero, List.getElem?_cons_succ, List.set_cons_zero, List.set_cons_succ, List.map_cons, List.map_nil, List.length_cons, List.length_nil, List.replicate_succ, List.replicate_zero, List.cons_append, List.nil_append, List.append_nil, Nat.reduceAdd, Nat.reduceSub, Int.reduceSub, Int.reduceNeg, Int.reduceAdd, Nat.reduceMul, Nat.reduceLeDiff, LN, true_and, and_true, if_true, if_false, Bool.not_true, Bool.not_false, Bool.false_eq_true, reduceIte, decide_true, decide_false, opIx_loc a.here, hp]
    refine seq_i fun R2 h2 => ?_
    simp only [von_nil, von_pass, von_break, von_cont, von_retN, von_expr, von_ret, von_if, von_set, von_asg, von_par2, von_par3, von_for, von_var, von_C, von_aNil, von_aCons, von_tup, von_lst, von_lstM, von_opE, von_tV, von_chain, von_tAn, von_tOr, von_tNo, von_and, von_or, von_not, von_eIf, von_call, von_callD, von_CB, von_isi, von_isis, von_pNo, von_pSo, von_sl, von_fmt, von_joined, von_runJ0, von_runJ1, von_M1, von_append, von_frz, von_iOf, von_iR1, von_iR2, von_lc, von_dct, so_some, so_none, so_bind, so_map, so_ite, on_ok, on_exc, on_bad, on_of, on_ite, on_iteB, on_runB, son_ite, son_nx, son_rt, son_bk, son_ct, son_exc, son_bad, po_nx, po_rt, po_bk, po_ct, po_ex, Po.fn, start0_eq, asB_bl, der_non, der_bl, der_int, der_str, der_tup, der_lst, der_dct, opAdd_int, opAdd_str, opAdd_tup, opAdd_lst, opSub_int, opMul_int, opDiv_int, opMod_int, opLt_int, opLe_int, opGt_int, opGe_int, opEq_int, opNe_int, opIx_tup, opIx_lst, at0, at1, at2, at3, at4, fInt_int, fLen_tup, fLen_lst, fLen_dct, fLen_str, gvName_ap, tYesV_ap, gvSub_var, Option.bind_some, Option.map_some, get0, getS, set0, setS, List.getElem?_cons_zero, List.getElem?_cons_succ, List.set_cons_zero, List.set_cons_succ, List.map_cons, List.map_nil, List.length_cons, List.length_nil, List.replicate_succ, List.replicate_zero, List.cons_append, List.nil_append, List.append_nil, Nat.reduceAdd, Nat.reduceSub, Int.reduceSub, Int.reduceNeg, Int.reduceAdd, Nat.reduceMul, Nat.reduceLeDiff, LN, true_and, and_true, if_true, if_false, Bool.not_true, Bool.not_false, Bool.false_eq_true, reduceIte, decide_true, decide_false, opIx_loc a.here, h0]
    refine h2 _ _ ?_
    refine seq_i fun R2 h2 => ?_
    simp only [von_nil, von_pass, von_break, von_cont, von_retN, von_expr, von_ret, von_if, von_set, von_asg, von_par2, von_par3, von_for, von_var, von_C, von_aNil, von_aCons, von_tup, von_lst, von_lstM, von_opE, von_tV, von_chain, von_tAn, von_tOr, von_tNo, von_and, von_or, von_not, von_eIf, von_call, von_callD, von_CB, von_isi, von_isis, von_pNo, von_pSo, von_sl, von_fmt, von_joined, von_runJ0, von_runJ1, von_M1, von_append, von_frz, von_iOf, von_iR1, von_iR2, von_lc, von_dct, so_some, so_none, so_bind, so_map, so_ite, on_ok, on_exc, on_bad, on_of, on_ite, on_iteB, on_runB, son_ite, son_nx, son_rt, son_bk, son_ct, son_exc, son_bad, po_nx, po_rt, po_bk, po_ct, po_ex, Po.fn, start0_eq, asB_bl, der_non, der_bl, der_int, der_str, der_tup, der_lst, der_dct, opAdd_int, opAdd_str, opAdd_tup, opAdd_lst, opSub_int, opMul_int, opDiv_int, opMod_int, opLt_int, opLe_int, opGt_int, opGe_int, opEq_int, opNe_int, opIx_tup, opIx_lst, at0, at1, at2, at3, at4, fInt_int, fLen_tup, fLen_lst, fLen_dct, fLen_str, gvName_ap, tYesV_ap, gvSub_var, Option.bind_some, Option.map_some, get0, getS, set0, setS, List.getElem?_cons_zero, List.getElem?_cons_succ, List.set_cons_zero, List.set_cons_succ, List.map_cons, List.map_nil, List.length_cons, List.length_nil, List.replicate_succ, List.replicate_zero, List.cons_append, List.nil_append, List.append_nil, Nat.reduceAdd, Nat.reduceSub, Int.reduceSub, Int.reduceNeg, Int.reduceAdd, Nat.reduceMul, Nat.reduceLeDiff, LN, true_and, and_true, if_true, if_false, Bool.not_true, Bool.not_false, Bool.false_eq_true, reduceIte, decide_true, decide_false, opIx_loc a.here, lstAt_at a.here, eC_ap, ix42, h0, h1]
    refine h2 _ _ ?_
    simp only [von_nil, von_pass, von_break, von_cont, von_retN, von_expr, von_ret, von_if, von_set, von_asg, von_par2, von_par3, von_for, von_var, von_C, von_aNil, von_aCons, von_tup, von_lst, von_lstM, von_opE, von_tV, von_chain, von_tAn, von_tOr, von_tNo, von_and, von_or, von_not, von_eIf, von_call, von_callD, von_CB, von_isi, von_isis, von_pNo, von_pSo, von_sl, von_fmt, von_joined, von_runJ0, von_runJ1, von_M1, von_append, von_frz, von_iOf, von_iR1, von_iR2, von_lc, von_dct, so_some, so_none, so_bind, so_map, so_ite, on_ok, on_exc, on_bad, on_of, on_ite, on_iteB, on_runB, son_ite, son_nx, son_rt, son_bk, son_ct, son_exc, son_bad, po_nx, po_rt, po_bk, po_ct, po_ex, Po.fn, start0_eq, asB_bl, der_non, der_bl, der_int, der_str, der_tup, der_lst, der_dct, opAdd_int, opAdd_str, opAdd_tup, opAdd_lst, opSub_int, opMul_int, opDiv_int, opMod_int, opLt_int, opLe_int, opGt_int, opGe_int, opEq_int, opNe_int, opIx_tup, opIx_lst, at0, at1, at2, at3, at4, fInt_int, fLen_tup, fLen_lst, fLen_dct, fLen_str, gvName_ap, tYesV_ap, gvSub_var, Option.bind_some, Option.map_some, get0, getS, set0, setS, List.getElem?_cons_zero, List.getElem?_cons_succ, List.set_cons_zero, List.set_cons_succ, List.map_cons, List.map_nil, List.length_cons, List.length_nil, List.replicate_succ, List.replicate_zero, List.cons_append, List.nil_append, List.append_nil, Nat.reduceAdd, Nat.reduceSub, Int.reduceSub, Int.reduceNeg, Int.reduceAdd, Nat.reduceMul, Nat.reduceLeDiff, LN, true_and, and_true, if_true, if_false, Bool.not_true, Bool.not_false, Bool.false_eq_true, reduceIte, decide_true, decide_false]
    exact h _ _ (Int.emod_nonneg _ (by omega)) (Int.emod_lt_of_pos _ h0) (fin a.set hi2 (Int.ediv_nonneg hr2 (by omega)) hs2 hs3) (At.set a).len
  · simp only [von_nil, von_pass, von_break, von_cont, von_retN, von_expr, von_ret, von_if, von_set, von_asg, von_par2, von_par3, von_for, von_var, von_C, von_aNil, von_aCons, von_tup, von_lst, von_lstM, von_opE, von_tV, von_chain, von_tAn, von_tOr, von_tNo, von_and, von_or, von_not, von_eIf, von_call, von_callD, von_CB, von_isi, von_isis, von_pNo, von_pSo, von_sl, von_fmt, von_joined, von_runJ0, von_runJ1, von_M1, von_append, von_frz, von_iOf, von_iR1, von_iR2, von_lc, von_dct, so_some, so_none, so_bind, so_map, so_ite, on_ok, on_exc, on_bad, on_of, on_ite, on_iteB, on_runB, son_ite, son_nx, son_rt, son_bk, son_ct, son_exc, son_bad, po_nx, po_rt, po_bk, po_ct, po_ex, Po.fn, start0_eq, asB_bl, der_non, der_bl, der_int, der_str, der_tup, der_lst, der_dct, opAdd_int, opAdd_str, opAdd_tup, opAdd_lst, opSub_int, opMul_int, opDiv_int, opMod_int, opLt_int, opLe_int, opGt_int, opGe_int, opEq_int, opNe_int, opIx_tup, opIx_lst, at0, at1, at2, at3, at4, fInt_int, fLen_tup, fLen_lst, fLen_dct, fLen_str, gvName_ap, tYesV_ap, gvSub_var, Option.bind_some, Option.map_some, get0, getS, set0, setS, List.getElem?_cons_zero, List.getElem?_cons_succ, List.set_cons_zero, List.set_cons_succ, List.map_cons, List.map_nil, List.length_cons, List.length_nil, List.replicate_succ, List.replicate_zero, List.cons_append, List.nil_append, List.append_nil, Nat.reduceAdd, Nat.reduceSub, Int.reduceSub, Int.reduceNeg, Int.reduceAdd, Nat.reduceMul, Nat.reduceLeDiff, LN, true_and, and_true, if_true, if_false, Bool.not_true, Bool.not_false, Bool.false_eq_true, reduceIte, decide_true, decide_false, opIx_loc a.here, hp]
    refine hR _ _ ?_
    refine seq_i fun R2 h2 => ?_
    simp only [von_nil, von_pass, von_break, von_cont, von_retN, von_expr, von_ret, von_if, von_set, von_asg, von_par2, von_par3, von_for, von_var, von_C, von_aNil, von_aCons, von_tup, von_lst, von_lstM, von_opE, von_tV, von_chain, von_tAn, von_tOr, von_tNo, von_and, von_or, von_not, von_eIf, von_call, von_callD, von_CB, von_isi, von_isis, von_pNo, von_pSo, von_sl, von_fmt, von_joined, von_runJ0, von_runJ1, von_M1, von_append, von_frz, von_iOf, von_iR1, von_iR2, von_lc, von_dct, so_some, so_none, so_bind, so_map, so_ite, on_ok, on_exc, on_bad, on_of, on_ite, on_iteB, on_runB, son_ite, son_nx, son_rt, son_bk, son_ct, son_exc, son_bad, po_nx, po_rt, po_bk, po_ct, po_ex, Po.fn, start0_eq, asB_bl, der_non, der_bl, der_int, der_str, der_tup, der_lst, der_dct, opAdd_int, opAdd_str, opAdd_tup, opAdd_lst, opSub_int, opMul_int, opDiv_int, opMod_int, opLt_int, opLe_int, opGt_int, opGe_int, opEq_int, opNe_int, opIx_tup, opIx_lst, at0, at1, at2, at3, at4, fInt_int, fLen_tup, fLen_lst, fLen_dct, fLen_str, gvName_ap, tYesV_ap, gvSub_var, Option.bind_some, Option.map_some, get0, getS, set0, setS, List.getElem?_cons_zero, List.getElem?_cons_succ, List.set_cons_zero, List.set_cons_succ, List.map_cons, List.map_nil, List.length_cons, List.length_nil, List.replicate_succ, List.replicate_zero, List.cons_append, List.nil_append, List.append_nil, Nat.reduceAdd, Nat.reduceSub, Int.reduceSub, Int.reduceNeg, Int.reduceAdd, Nat.reduceMul, Nat.reduceLeDiff, LN, true_and, and_true, if_true, if_false, Bool.not_true, Bool.not_false, Bool.false_eq_true, reduceIte, decide_true, decide_false, opIx_loc a.here, lstAt_at a.here, eC_ap, ix43, mulOk_small hs2 (Int.lt_trans hs3 (by decide)), show (0 : Int) < 2147483629 from by decide]
    refine h2 _ _ ?_
    have a4 := a.set (mo2 := bagO cells i2 rest2 ((seed2 * seed2 + seed2 * 40692 + 1231) % 2147483629))
    have s0 : 0 ≤ (seed2 * seed2 + seed2 * 40692 + 1231) % 2147483629 := Int.emod_nonneg _ (by decide)
    have s1 : (seed2 * seed2 + seed2 * 40692 + 1231) % 2147483629 < 2147483629 := Int.emod_lt_of_pos _ (by decide)
    simp only [von_nil, von_pass, von_break, von_cont, von_retN, von_expr, von_ret, von_if, von_set, von_asg, von_par2, von_par3, von_for, von_var, von_C, von_aNil, von_aCons, von_tup, von_lst, von_lstM, von_opE, von_tV, von_chain, von_tAn, von_tOr, von_tNo, von_and, von_or, von_not, von_eIf, von_call, von_callD, von_CB, von_isi, von_isis, von_pNo, von_pSo, von_sl, von_fmt, von_joined, von_runJ0, von_runJ1, von_M1, von_append, von_frz, von_iOf, von_iR1, von_iR2, von_lc, von_dct, so_some, so_none, so_bind, so_map, so_ite, on_ok, on_exc, on_bad, on_of, on_ite, on_iteB, on_runB, son_ite, son_nx, son_rt, son_bk, son_ct, son_exc, son_bad, po_nx, po_rt, po_bk, po_ct, po_ex, Po.fn, start0_eq, asB_bl, der_non, der_bl, der_int, der_str, der_tup, der_lst, der_dct, opAdd_int, opAdd_str, opAdd_tup, opAdd_lst, opSub_int, opMul_int, opDiv_int, opMod_int, opLt_int, opLe_int, opGt_int, opGe_int, opEq_int, opNe_int, opIx_tup, opIx_lst, at0, at1, at2, at3, at4, fInt_int, fLen_tup, fLen_lst, fLen_dct, fLen_str, gvName_ap, tYesV_ap, gvSub_var, Option.bind_some, Option.map_some, get0, getS, set0, setS, List.getElem?_cons_zero, List.getElem?_cons_succ, List.set_cons_zero, List.set_cons_succ, List.map_cons, List.map_nil, List.length_cons, List.length_nil, List.replicate_succ, List.replicate_zero, List.cons_append, List.nil_append, List.append_nil, Nat.reduceAdd, Nat.reduceSub, Int.reduceSub, Int.reduceNeg, Int.reduceAdd, Nat.reduceMul, Nat.reduceLeDiff, LN, true_and, and_true, if_true, if_false, Bool.not_true, Bool.not_false, Bool.false_eq_true, reduceIte, decide_true, decide_false, opIx_loc a4.here, mulOk_small (Int.emod_nonneg _ (by decide) : 0 ≤ (seed2 * seed2 + seed2 * 40692 + 1231) % 2147483629 % 7919) (Int.lt_trans (Int.emod_lt_of_pos _ (by decide)) (by decide)), h0, h1, show (0 : Int) < 97 ∧ (97 : Int) < 1073741824 from by decide, show (0 : Int) < 7919 from by decide]
    exact h _ _ (Int.emod_nonneg _ (by omega)) (Int.emod_lt_of_pos _ h0) (fin a4 hi2 hr2 s0 s1) a4.len

theorem of_lst {S : Sto} {b : Nat} {xs : List D} {K : D → Sto → Prop} {E : Exc → Sto → Prop} (hB : Bag S b) (h0 : 0 < xs.length) (h1 : xs.length < 1073741824)
    (h : ∀ x S2, x ∈ xs → Stp b S S2 → S2.length = S.length → K x S2) : (m_of [.loc b, .lst xs] S).oo K E := by
  unfold m_of
  simp only [von_nil, von_pass, von_break, von_cont, von_retN, von_expr, von_ret, von_if, von_set, von_asg, von_par2, von_par3, von_for, von_var, von_C, von_aNil, von_aCons, von_tup, von_lst, von_lstM, von_opE, von_tV, von_chain, von_tAn, von_tOr, von_tNo, von_and, von_or, von_not, von_eIf, von_call, von_callD, von_CB, von_isi, von_isis, von_pNo, von_pSo, von_sl, von_fmt, von_joined, von_runJ0, von_runJ1, von_M1, von_append, von_frz, von_iOf, von_iR1, von_iR2, von_lc, von_dct, so_some, so_none, so_bind, so_map, so_ite, on_ok, on_exc, on_bad, on_of, on_ite, on_iteB, on_runB, son_ite, son_nx, son_rt, son_bk, son_ct, son_exc, son_bad, po_nx, po_rt, po_bk, po_ct, po_ex, Po.fn, start0_eq, asB_bl, der_non, der_bl, der_int, der_str, der_tup, der_lst, der_dct, opAdd_int, opAdd_str, opAdd_tup, opAdd_lst, opSub_int, opMul_int, opDiv_int, opMod_int, opLt_int, opLe_int, opGt_int, opGe_int, opEq_int, opNe_int, opIx_tup, opIx_lst, at0, at1, at2, at3, at4, fInt_int, fLen_tup, fLen_lst, fLen_dct, fLen_str, gvName_ap, tYesV_ap, gvSub_var, Option.bind_some, Option.map_some, get0, getS, set0, setS, List.getElem?_cons_zero, List.getElem?_cons_succ, List.set_cons_zero, List.set_cons_succ, List.map_cons, List.map_nil, List.length_cons, List.length_nil, List.replicate_succ, List.replicate_zero, List.cons_append, List.nil_append, List.append_nil, Nat.reduceAdd, Nat.reduceSub, Int.reduceSub, Int.reduceNeg, Int.reduceAdd, Nat.reduceMul, Nat.reduceLeDiff, LN, true_and, and_true, if_true, if_false, Bool.not_true, Bool.not_false, Bool.false_eq_true, reduceIte, decide_true, decide_false]
  refine take_on hB (by omega) (by omega) fun k S2 k0 k1 st hl => ?_
  obtain ⟨x, e, m⟩ := atI_mem k0 k1
  simp only [von_nil, von_pass, von_break, von_cont, von_retN, von_expr, von_ret, von_if, von_set, von_asg, von_par2, von_par3, von_for, von_var, von_C, von_aNil, von_aCons, von_tup, von_lst, von_lstM, von_opE, von_tV, von_chain, von_tAn, von_tOr, von_tNo, von_and, von_or, von_not, von_eIf, von_call, von_callD, von_CB, von_isi, von_isis, von_pNo, von_pSo, von_sl, von_fmt, von_joined, von_runJ0, von_runJ1, von_M1, von_append, von_frz, von_iOf, von_iR1, von_iR2, von_lc, von_dct, so_some, so_none, so_bind, so_map, so_ite, on_ok, on_exc, on_bad, on_of, on_ite, on_iteB, on_runB, son_ite, son_nx, son_rt, son_bk, son_ct, son_exc, son_bad, po_nx, po_rt, po_bk, po_ct, po_ex, Po.fn, start0_eq, asB_bl, der_non, der_bl, der_int, der_str, der_tup, der_lst, der_dct, opAdd_int, opAdd_str, opAdd_tup, opAdd_lst, opSub_int, opMul_int, opDiv_int, opMod_int, opLt_int, opLe_int, opGt_int, opGe_int, opEq_int, opNe_int, opIx_tup, opIx_lst, at0, at1, at2, at3, at4, fInt_int, fLen_tup, fLen_lst, fLen_dct, fLen_str, gvName_ap, tYesV_ap, gvSub_var, Option.bind_some, Option.map_some, get0, getS, set0, setS, List.getElem?_cons_zero, List.getElem?_cons_succ, List.set_cons_zero, List.set_cons_succ, List.map_cons, List.map_nil, List.length_cons, List.length_nil, List.replicate_succ, List.replicate_zero, List.cons_append, List.nil_append, List.append_nil, Nat.reduceAdd, Nat.reduceSub, Int.reduceSub, Int.reduceNeg, Int.reduceAdd, Nat.reduceMul, Nat.reduceLeDiff, LN, true_and, and_true, if_true, if_false, Bool.not_true, Bool.not_false, Bool.false_eq_true, reduceIte, decide_true, decide_false, e]
  exact h x S2 m st hl
theorem of_str {S : Sto} {b : Nat} {x : Str} {K : D → Sto → Prop} {E : Exc → Sto → Prop} (hB : Bag S b) (h0 : 0 < x.length) (h1 : x.length ≤ 16777216)
    (h : ∀ c S2, c ∈ x.cps.toList → Stp b S S2 → S2.length = S.length → K (.str (SX.S [c])) S2) : (m_of [.loc b, .str x] S).oo K E := by
  unfold m_of
  simp only [von_nil, von_pass, von_break, von_cont, von_retN, von_expr, von_ret, von_if, von_set, von_asg, von_par2, von_par3, von_for, von_var, von_C, von_aNil, von_aCons, von_tup, von_lst, von_lstM, von_opE, von_tV, von_chain, von_tAn, von_tOr, von_tNo, von_and, von_or, von_not, von_eIf, von_call, von_callD, von_CB, von_isi, von_isis, von_pNo, von_pSo, von_sl, von_fmt, von_joined, von_runJ0, von_runJ1, von_M1, von_append, von_frz, von_iOf, von_iR1, von_iR2, von_lc, von_dct, so_some, so_none, so_bind, so_map, so_ite, on_ok, on_exc, on_bad, on_of, on_ite, on_iteB, on_runB, son_ite, son_nx, son_rt, son_bk, son_ct, son_exc, son_bad, po_nx, po_rt, po_bk, po_ct, po_ex, Po.fn, start0_eq, asB_bl, der_non, der_bl, der_int, der_str, der_tup, der_lst, der_dct, opAdd_int, opAdd_str, opAdd_tup, opAdd_lst, opSub_int, opMul_int, opDiv_int, opMod_int, opLt_int, opLe_int, opGt_int, opGe_int, opEq_int, opNe_int, opIx_tup, opIx_lst, at0, at1, at2, at3, at4, fInt_int, fLen_tup, fLen_lst, fLen_dct, fLen_str, gvName_ap, tYesV_ap, gvSub_var, Option.bind_some, Option.map_some, get0, getS, set0, setS, List.getElem?_cons_zero, List.getElem?_cons_succ, List.set_cons_zero, List.set_cons_succ, List.map_cons, List.map_nil, List.length_cons, List.length_nil, List.replicate_succ, List.replicate_zero, List.cons_append, List.nil_append, List.append_nil, Nat.reduceAdd, Nat.reduceSub, Int.reduceSub, Int.reduceNeg, Int.reduceAdd, Nat.reduceMul, Nat.reduceLeDiff, LN, true_and, and_true, if_true, if_false, Bool.not_true, Bool.not_false, Bool.false_eq_true, reduceIte, decide_true, decide_false, h1]
  refine take_on hB (by omega) (by omega) fun k S2 k0 k1 st hl => ?_
  obtain ⟨c, e, m⟩ := atI_mem (xs := x.cps.toList) k0 (by simpa [Str.length] using k1)
  have e2 : opIx (.str x) (.int k) S2 = some (.str (SX.S [c])) := by
    show (if x.length ≤ LN then (atI x.cps.toList k).map fun c => D.str ⟨#[c]⟩ else none) = _
    rw [if_pos (show x.length ≤ LN from h1), e]; rfl
  rw [e2, so_some]
  exact h c S2 m st hl
theorem bag_on {S : Sto} {ns : List Int} {K : D → Sto → Prop} {E : Exc → Sto → Prop} (hn : ns.length ≤ 63) (h : ∀ S2, Stp S.length S S2 → S2.length = S.length + 1 → K (.loc S.length) S2) : (m_bag [.frz (ns.map .int)] S).oo K E := by
  have e1 : opSl (.frz (ns.map .int)) none (some 63) S = some (.lst (ns.map .int)) := by
    show some (D.lst (cutD (ns.map D.int) none (some 63))) = _
    rw [cut_whole]
    refine ⟨rfl, ?_⟩
    have e := HT.sIx_nat (ns.map D.int).length (ns.map D.int).length 63
    rw [List.length_map] at e ⊢
    exact e.trans (Nat.min_eq_right hn)
  have e2 : mulOk 31 ((ns.map D.int).length : Int) = true := mulOk_small (by decide) (by decide)
  have e3 : ∀ xs, fList [.lst xs] S = some (.lst xs) := fun _ => rfl
  unfold m_bag
  rw [on_runB]
  refine seq_i fun R hR => ?_
  simp only [von_nil, von_pass, von_break, von_cont, von_retN, von_expr, von_ret, von_if, von_set, von_asg, von_par2, von_par3, von_for, von_var, von_C, von_aNil, von_aCons, von_tup, von_lst, von_lstM, von_opE, von_tV, von_chain, von_tAn, von_tOr, von_tNo, von_and, von_or, von_not, von_eIf, von_call, von_callD, von_CB, von_isi, von_isis, von_pNo, von_pSo, von_sl, von_fmt, von_joined, von_runJ0, von_runJ1, von_M1, von_append, von_frz, von_iOf, von_iR1, von_iR2, von_lc, von_dct, so_some, so_none, so_bind, so_map, so_ite, on_ok, on_exc, on_bad, on_of, on_ite, on_iteB, on_runB, son_ite, son_nx, son_rt, son_bk, son_ct, son_exc, son_bad, po_nx, po_rt, po_bk, po_ct, po_ex, Po.fn, start0_eq, asB_bl, der_non, der_bl, der_int, der_str, der_tup, der_lst, der_dct, opAdd_int, opAdd_str, opAdd_tup, opAdd_lst, opSub_int, opMul_int, opDiv_int, opMod_int, opLt_int, opLe_int, opGt_int, opGe_int, opEq_int, opNe_int, opIx_tup, opIx_lst, at0, at1, at2, at3, at4, fInt_int, fLen_tup, fLen_lst, fLen_dct, fLen_str, gvName_ap, tYesV_ap, gvSub_var, Option.bind_some, Option.map_some, get0, getS, set0, setS, List.getElem?_cons_zero, List.getElem?_cons_succ, List.set_cons_zero, List.set_cons_succ, List.map_cons, List.map_nil, List.length_cons, List.length_nil, List.replicate_succ, List.replicate_zero, List.cons_append, List.nil_append, List.append_nil, Nat.reduceAdd, Nat.reduceSub, Int.reduceSub, Int.reduceNeg, Int.reduceAdd, Nat.reduceMul, Nat.reduceLeDiff, LN, true_and, and_true, if_true, if_false, Bool.not_true, Bool.not_false, Bool.false_eq_true, reduceIte, decide_true, decide_false, e1, e3]
  refine hR _ _ ?_
  simp only [von_nil, von_pass, von_break, von_cont, von_retN, von_expr, von_ret, von_if, von_set, von_asg, von_par2, von_par3, von_for, von_var, von_C, von_aNil, von_aCons, von_tup, von_lst, von_lstM, von_opE, von_tV, von_chain, von_tAn, von_tOr, von_tNo, von_and, von_or, von_not, von_eIf, von_call, von_callD, von_CB, von_isi, von_isis, von_pNo, von_pSo, von_sl, von_fmt, von_joined, von_runJ0, von_runJ1, von_M1, von_append, von_frz, von_iOf, von_iR1, von_iR2, von_lc, von_dct, so_some, so_none, so_bind, so_map, so_ite, on_ok, on_exc, on_bad, on_of, on_ite, on_iteB, on_runB, son_ite, son_nx, son_rt, son_bk, son_ct, son_exc, son_bad, po_nx, po_rt, po_bk, po_ct, po_ex, Po.fn, start0_eq, asB_bl, der_non, der_bl, der_int, der_str, der_tup, der_lst, der_dct, opAdd_int, opAdd_str, opAdd_tup, opAdd_lst, opSub_int, opMul_int, opDiv_int, opMod_int, opLt_int, opLe_int, opGt_int, opGe_int, opEq_int, opNe_int, opIx_tup, opIx_lst, at0, at1, at2, at3, at4, fInt_int, fLen_tup, fLen_lst, fLen_dct, fLen_str, gvName_ap, tYesV_ap, gvSub_var, Option.bind_some, Option.map_some, get0, getS, set0, setS, List.getElem?_cons_zero, List.getElem?_cons_succ, List.set_cons_zero, List.set_cons_succ, List.map_cons, List.map_nil, List.length_cons, List.length_nil, List.replicate_succ, List.replicate_zero, List.cons_append, List.nil_append, List.append_nil, Nat.reduceAdd, Nat.reduceSub, Int.reduceSub, Int.reduceNeg, Int.reduceAdd, Nat.reduceMul, Nat.reduceLeDiff, LN, true_and, and_true, if_true, if_false, Bool.not_true, Bool.not_false, Bool.false_eq_true, reduceIte, decide_true, decide_false, e2]
  refine h _ ?_ (by simp)
  refine ⟨⟨ns.map .int, 0, 0, 12029 + 31 * ((ns.map D.int).length : Int), ?_, ?_, by decide, by decide, by omega, ?_⟩, by simp, fun l hl _ => ?_⟩
  · simp
  · intro c hc
    obtain ⟨z, _, rfl⟩ := List.mem_map.mp hc
    exact ⟨z, rfl⟩
  · rw [List.length_map]; omega
  · rw [List.getElem?_append_left hl]

/-! ### names -/
def m_names : Fn := runB 11 (sSeq (sSet 3 (eC (.str "abcdefghijklmnopqrstuvwxyz")))
  (sSeq (sSet 4 (eM1 joinD (eC (.str "")) (eLc (iR1 (eCall 2 m_take [] (aCons (eVar 0) (aCons (eVar 2) aNil)))) (gvName 5) tYesV (eCall 2 m_of [] (aCons (eVar 0) (aCons (eVar 3) aNil))) [5])))
  (sSeq (sPar3 6 7 8 (aCons (eCall 2 m_take [] (aCons (eVar 0) (aCons (eC (.int 26)) aNil))) (aCons (eCall 2 m_of [] (aCons (eVar 0) (aCons (eLst (aCons (eC (.int 1)) (aCons (eC (.int 3)) (aCons (eC (.int 5)) (aCons (eC (.int 7)) (aCons (eC (.int 11)) (aCons (eC (.int 25)) aNil))))))) aNil))) (aCons (eLstM aNil) aNil))))
  (sSeq (sFor (iR1 (eVar 1)) (gvName 5) (sSeq (sSet 9 (eM1 joinD (eC (.str "")) (eLc (iR1 (eCall 2 m_take [] (aCons (eVar 0) (aCons (eOp opSub (eVar 2) (eCB fLen (aCons (eVar 4) aNil))) aNil)))) (gvName 10) tYesV (eCall 2 m_of [] (aCons (eVar 0) (aCons (eVar 3) aNil))) [10])))
  (sExpr (eAppend (eVar 8) (eOp opAdd (eOp opAdd (eVar 4) (eOp opIx (eVar 3) (eOp opMod (eCB fInt (aCons (eOp opAdd (eVar 6) (eOp opMul (eVar 7) (eVar 5))) aNil)) (eC (.int 26))))) (eVar 9))))))
  (sRet (eFrz (eVar 8)))))))
def abcL : List Nat := (List.range 26).map (97 + ·)
theorem abc_S : ("abcdefghijklmnopqrstuvwxyz" : Str) = SX.S abcL := by rfl
theorem nil_S : ("" : Str) = SX.S [] := by rfl
def low (l : List Nat) : Prop := ∀ c ∈ l, 97 ≤ c ∧ c ≤ 122
theorem abcL_mem {c : Nat} (h : c ∈ abcL) : 97 ≤ c ∧ c ≤ 122 := by
  obtain ⟨i, hi, rfl⟩ := List.mem_map.mp h
  have := List.mem_range.mp hi
  omega
theorem mem_abcL {c : Nat} (h : 97 ≤ c ∧ c ≤ 122) : c ∈ abcL := List.mem_map.mpr ⟨c - 97, List.mem_range.mpr (by omega), by omega⟩
theorem abc_at {i : Int} (h0 : 0 ≤ i) (h1 : i < 26) (S : Sto) : opIx (.str "abcdefghijklmnopqrstuvwxyz") (.int i) S = some (.str (SX.S [97 + i.toNat])) := by
  obtain ⟨n, rfl⟩ := Int.eq_ofNat_of_zero_le h0
  have hn : n < 26 := by omega
  have e : atI abcL (n : Int) = some (97 + n) := atI_nat (by
    unfold abcL
    rw [List.getElem?_map, List.getElem?_range hn]; rfl)
  rw [abc_S]
  show (if (SX.S abcL).length ≤ LN then (atI abcL (n : Int)).map fun c => D.str ⟨#[c]⟩ else none) = _
  rw [if_pos (by decide), e]; rfl
theorem strsOf_S : ∀ l : List Nat, strsOf (l.map fun c => D.str (SX.S [c])) = some ((l.map fun c => [c]).map SX.S)
  | [] => rfl
  | c :: l => by
    show (strsOf (l.map fun c => D.str (SX.S [c]))).map (SX.S [c] :: ·) = _
    rw [strsOf_S l]; rfl
theorem joinL_one : ∀ l : List Nat, TL.joinL [] (l.map fun c => [c]) = l
  | [] => rfl
  | [c] => rfl
  | c :: d :: l => by
    have e := joinL_one (d :: l)
    show [c] ++ ([] ++ TL.joinL [] ((d :: l).map fun c => [c])) = _
    rw [e]; rfl
theorem joinD_S {l : List Nat} (h : l.length ≤ 1000) : joinD (.str "") (.lst (l.map fun c => .str (SX.S [c]))) = some (.str (SX.S l)) := by
  show ((strsOf (l.map fun c => D.str (SX.S [c]))).bind fun ys => if (ys.map (·.length)).sum + ys.length * (Str.length "") ≤ LN then some (D.str (Txt.join "" ys)) else none) = _
  rw [strsOf_S]
  show (if ((((l.map fun c => [c]).map SX.S)).map (·.length)).sum + _ ≤ LN then _ else none) = _
  have e : ∀ l : List Nat, ((((l.map fun c => [c]).map SX.S)).map (·.length)).sum = l.length := by
    intro l
    induction l with
    | nil => rfl
    | cons c l ih =>
      rw [List.map_cons, List.map_cons, List.map_cons, List.sum_cons, ih]
      show 1 + l.length = l.length + 1
      omega
  rw [if_pos (by
    rw [e, show Str.length "" = 0 from rfl]
    unfold LN
    omega)]
  rw [nil_S, SX.join_S, joinL_one]
/-- a comprehension that draws letters -/
theorem letters_on {vs : List Nat} {S : Sto} {b j : Nat} {e0 : DL.Env} {K : List D → Sto → Prop} {E : Exc → Sto → Prop} (hB : Bag S b)
    (h0 : ∀ d, (e0.set j (some d))[0]? = some (some (.loc b))) (h3 : ∀ d, (e0.set j (some d))[3]? = some (some (.str "abcdefghijklmnopqrstuvwxyz"))) (n : Nat)
    (h : ∀ l S2, low l → l.length = n → Stp b S S2 → S2.length = S.length → K (l.map fun c => .str (SX.S [c])) S2) :
    (lcRun (gvName j) tYesV (eCall 2 m_of [] (aCons (eVar 0) (aCons (eVar 3) aNil))) vs e0 (rngL 0 n) S).oo K E := by
  refine lcRun_on (fun ds acc S1 => Stp b S S1 ∧ S1.length = S.length ∧ ∃ l, low l ∧ acc = (l.map fun c => .str (SX.S [c])) ∧ l.length + ds.length = n) (acc := []) ⟨.refl hB, rfl, [], fun _ h => by simp at h, rfl, by rw [rngL_len]; simp⟩ ?_ ?_
  · intro ys S2 ⟨st, hl, l, hl1, e, hn⟩
    rw [List.nil_append] at e
    subst e
    exact h l S2 hl1 (by simpa using hn) st hl
  · intro d ds acc S1 ⟨st, hl, l, hl1, e, hn⟩
    subst e
    rw [lcTurn_on]
    simp only [von_nil, von_pass, von_break, von_cont, von_retN, von_expr, von_ret, von_if, von_set, von_asg, von_par2, von_par3, von_for, von_var, von_C, von_aNil, von_aCons, von_tup, von_lst, von_lstM, von_opE, von_tV, von_chain, von_tAn, von_tOr, von_tNo, von_and, von_or, von_not, von_eIf, von_call, von_callD, von_CB, von_isi, von_isis, von_pNo, von_pSo, von_sl, von_fmt, von_joined, von_runJ0, von_runJ1, von_M1, von_append, von_frz, von_iOf, von_iR1, von_iR2, von_lc, von_dct, so_some, so_none, so_bind, so_map, so_ite, on_ok, on_exc, on_bad, on_of, on_ite, on_iteB, on_runB, son_ite, son_nx, son_rt, son_bk, son_ct, son_exc, son_bad, po_nx, po_rt, po_bk, po_ct, po_ex, Po.fn, start0_eq, asB_bl, der_non, der_bl, der_int, der_str, der_tup, der_lst, der_dct, opAdd_int, opAdd_str, opAdd_tup, opAdd_lst, opSub_int, opMul_int, opDiv_int, opMod_int, opLt_int, opLe_int, opGt_int, opGe_int, opEq_int, opNe_int, opIx_tup, opIx_lst, at0, at1, at2, at3, at4, fInt_int, fLen_tup, fLen_lst, fLen_dct, fLen_str, gvName_ap, tYesV_ap, gvSub_var, Option.bind_some, Option.map_some, get0, getS, set0, setS, List.getElem?_cons_zero, List.getElem?_cons_succ, List.set_cons_zero, List.set_cons_succ, List.map_cons, List.map_nil, List.length_cons, List.length_nil, List.replicate_succ, List.replicate_zero, List.cons_append, List.nil_append, List.append_nil, Nat.reduceAdd, Nat.reduceSub, Int.reduceSub, Int.reduceNeg, Int.reduceAdd, Nat.reduceMul, Nat.reduceLeDiff, LN, true_and, and_true, if_true, if_false, Bool.not_true, Bool.not_false, Bool.false_eq_true, reduceIte, decide_true, decide_false, h0, h3]
    refine of_str st.bag (by decide) (by decide) fun c S2 hc st2 hl2 => ?_
    refine ⟨st.trans st2, hl2.trans hl, l ++ [c], fun x hx => ?_, ?_, by rw [List.length_append] <;> simp <;> simp at hn <;> omega⟩
    · rcases List.mem_append.mp hx with hx | hx
      · exact hl1 x hx
      · rw [List.mem_singleton.mp hx]; rw [abc_S] at hc; exact abcL_mem hc
    · rw [List.map_append]; rfl
/-- a name that is drawn -/
def Nm (cap : Int) (x : Str) : Prop := ∃ l : List Nat, x = SX.S l ∧ 1 ≤ l.length ∧ (l.length : Int) ≤ cap ∧ low l
theorem step_ne {begin step : Int} (hs : step ∈ ([1, 3, 5, 7, 11, 25] : List Int)) {j k : Nat} (hj : j < 26) (hk : k < 26) (h : (begin + step * (j : Int)) % 26 = (begin + step * (k : Int)) % 26) : j = k := by
  simp only [List.mem_cons, List.not_mem_nil, or_false] at hs
  rcases hs with rfl | rfl | rfl | rfl | rfl | rfl <;> omega

/-- the loop over the names -/
theorem names_loop {S S5 : Sto} {b f count : Nat} {cap begin stp : Int} {stem : List Nat} {K : D → Sto → Prop} {E : Exc → Sto → Prop} (hc : count ≤ 26) (h1 : 1 ≤ cap) (h2 : cap ≤ 500)
    (h : ∀ (xs : List Str) S2, xs.length = count → xs.Nodup → (∀ x ∈ xs, Nm cap x) → Stp b S S2 → K (.lst (xs.map .str)) S2)
    (hlow : low stem) (hlen : (stem.length : Int) < cap) (g0 : 0 ≤ begin) (g1 : begin < 26) (hstp : stp ∈ ([1, 3, 5, 7, 11, 25] : List Int)) (st5 : Stp b S S5) (hf : S5[f]? = some (.lst [])) (hfb : f ≠ b) (hfS : S.length ≤ f) :
    (sSeq (sFor (iR1 (eVar 1)) (gvName 5) (sSeq (sSet 9 (eM1 joinD (eC (.str "")) (eLc (iR1 (eCall 2 m_take [] (aCons (eVar 0) (aCons (eOp opSub (eVar 2) (eCB fLen (aCons (eVar 4) aNil))) aNil)))) (gvName 10) tYesV (eCall 2 m_of [] (aCons (eVar 0) (aCons (eVar 3) aNil))) [10])))
  (sExpr (eAppend (eVar 8) (eOp opAdd (eOp opAdd (eVar 4) (eOp opIx (eVar 3) (eOp opMod (eCB fInt (aCons (eOp opAdd (eVar 6) (eOp opMul (eVar 7) (eVar 5))) aNil)) (eC (.int 26))))) (eVar 9))))))
  (sRet (eFrz (eVar 8))) [some (.loc b), some (.int count), some (.int cap), some (.str "abcdefghijklmnopqrstuvwxyz"), some (.str (SX.S stem)), none, some (.int begin), some (.int stp), some (.loc f), none, none] S5).oo (Po.fn K E) := by
  refine seq_i fun R hR => ?_
  simp only [von_nil, von_pass, von_break, von_cont, von_retN, von_expr, von_ret, von_if, von_set, von_asg, von_par2, von_par3, von_for, von_var, von_C, von_aNil, von_aCons, von_tup, von_lst, von_lstM, von_opE, von_tV, von_chain, von_tAn, von_tOr, von_tNo, von_and, von_or, von_not, von_eIf, von_call, von_callD, von_CB, von_isi, von_isis, von_pNo, von_pSo, von_sl, von_fmt, von_joined, von_runJ0, von_runJ1, von_M1, von_append, von_frz, von_iOf, von_iR1, von_iR2, von_lc, von_dct, so_some, so_none, so_bind, so_map, so_ite, on_ok, on_exc, on_bad, on_of, on_ite, on_iteB, on_runB, son_ite, son_nx, son_rt, son_bk, son_ct, son_exc, son_bad, po_nx, po_rt, po_bk, po_ct, po_ex, Po.fn, start0_eq, asB_bl, der_non, der_bl, der_int, der_str, der_tup, der_lst, der_dct, opAdd_int, opAdd_str, opAdd_tup, opAdd_lst, opSub_int, opMul_int, opDiv_int, opMod_int, opLt_int, opLe_int, opGt_int, opGe_int, opEq_int, opNe_int, opIx_tup, opIx_lst, at0, at1, at2, at3, at4, fInt_int, fLen_tup, fLen_lst, fLen_dct, fLen_str, gvName_ap, tYesV_ap, gvSub_var, Option.bind_some, Option.map_some, get0, getS, set0, setS, List.getElem?_cons_zero, List.getElem?_cons_succ, List.set_cons_zero, List.set_cons_succ, List.map_cons, List.map_nil, List.length_cons, List.length_nil, List.replicate_succ, List.replicate_zero, List.cons_append, List.nil_append, List.append_nil, Nat.reduceAdd, Nat.reduceSub, Int.reduceSub, Int.reduceNeg, Int.reduceAdd, Nat.reduceMul, Nat.reduceLeDiff, LN, true_and, and_true, if_true, if_false, Bool.not_true, Bool.not_false, Bool.false_eq_true, reduceIte, decide_true, decide_false]
  refine ⟨⟨by omega, by omega⟩, forL_on (fun ds e S6 => ∃ (xs : List Str) (x5 x9 x10 : Option D), e = [some (.loc b), some (.int count), some (.int cap), some (.str "abcdefghijklmnopqrstuvwxyz"), some (.str (SX.S stem)), x5, some (.int begin), some (.int stp), some (.loc f), x9, x10] ∧
    ds = rngL xs.length (count - xs.length) ∧ xs.length ≤ count ∧ Stp b S S6 ∧ S6[f]? = some (.lst (xs.map .str)) ∧ ∀ (j : Nat) x, xs[j]? = some x → ∃ t, x = SX.S (stem ++ ((97 + ((begin + stp * (j : Int)) % 26).toNat) :: t)) ∧ low t ∧ (stem.length + 1 + t.length : Int) ≤ cap) ?_ ?_ ?_⟩
  · exact ⟨[], _, _, _, rfl, by simp, by simp, st5, hf, fun j x q => by simp at q⟩
  · intro e S6 ⟨xs, x5, x9, x10, he, hds, hle, st6, hf6, hx⟩
    have hlen : xs.length = count := by
      have : (rngL xs.length (count - xs.length)).length = 0 := by rw [← hds]; rfl
      rw [rngL_len] at this
      omega
    refine hR _ _ ?_
    subst he
    simp only [von_nil, von_pass, von_break, von_cont, von_retN, von_expr, von_ret, von_if, von_set, von_asg, von_par2, von_par3, von_for, von_var, von_C, von_aNil, von_aCons, von_tup, von_lst, von_lstM, von_opE, von_tV, von_chain, von_tAn, von_tOr, von_tNo, von_and, von_or, von_not, von_eIf, von_call, von_callD, von_CB, von_isi, von_isis, von_pNo, von_pSo, von_sl, von_fmt, von_joined, von_runJ0, von_runJ1, von_M1, von_append, von_frz, von_iOf, von_iR1, von_iR2, von_lc, von_dct, so_some, so_none, so_bind, so_map, so_ite, on_ok, on_exc, on_bad, on_of, on_ite, on_iteB, on_runB, son_ite, son_nx, son_rt, son_bk, son_ct, son_exc, son_bad, po_nx, po_rt, po_bk, po_ct, po_ex, Po.fn, start0_eq, asB_bl, der_non, der_bl, der_int, der_str, der_tup, der_lst, der_dct, opAdd_int, opAdd_str, opAdd_tup, opAdd_lst, opSub_int, opMul_int, opDiv_int, opMod_int, opLt_int, opLe_int, opGt_int, opGe_int, opEq_int, opNe_int, opIx_tup, opIx_lst, at0, at1, at2, at3, at4, fInt_int, fLen_tup, fLen_lst, fLen_dct, fLen_str, gvName_ap, tYesV_ap, gvSub_var, Option.bind_some, Option.map_some, get0, getS, set0, setS, List.getElem?_cons_zero, List.getElem?_cons_succ, List.set_cons_zero, List.set_cons_succ, List.map_cons, List.map_nil, List.length_cons, List.length_nil, List.replicate_succ, List.replicate_zero, List.cons_append, List.nil_append, List.append_nil, Nat.reduceAdd, Nat.reduceSub, Int.reduceSub, Int.reduceNeg, Int.reduceAdd, Nat.reduceMul, Nat.reduceLeDiff, LN, true_and, and_true, if_true, if_false, Bool.not_true, Bool.not_false, Bool.false_eq_true, reduceIte, decide_true, decide_false]
    have e1 : MO.ofLoc S6 (.loc f) = some (f, .lst (xs.map .str)) := by
      show (match S6[f]? with | some mo => if mo.live = true then some (f, mo) else none | none => none) = _
      rw [hf6]; rfl
    rw [e1, so_some]
    refine h xs _ hlen ?_ ?_ ?_
    · refine List.pairwise_iff_getElem.mpr fun i j hi hj hij heq => ?_
      obtain ⟨t, e, _⟩ := hx i xs[i] (List.getElem?_eq_getElem hi)
      obtain ⟨u, e', _⟩ := hx j xs[j] (List.getElem?_eq_getElem hj)
      rw [e, e'] at heq
      have heq := SX.S_inj heq
      have heq := List.append_cancel_left heq
      injection heq with heq _
      have := step_ne hstp (by omega : i < 26) (by omega : j < 26) (begin := begin) (by
        have b1 := Int.emod_nonneg (begin + stp * (i : Int)) (by decide : (26 : Int) ≠ 0)
        have b2 := Int.emod_nonneg (begin + stp * (j : Int)) (by decide : (26 : Int) ≠ 0)
        omega)
      omega
    · intro x hm
      obtain ⟨j, hj, e⟩ := List.getElem_of_mem hm
      obtain ⟨t, e', hlt, hcap⟩ := hx j x (by rw [← e]; exact List.getElem?_eq_getElem hj)
      refine ⟨_, e', by simp <;> omega, by simp; omega, fun c hc => ?_⟩
      rcases List.mem_append.mp hc with hc | hc
      · exact hlow c hc
      · rcases List.mem_cons.mp hc with hc | hc
        · have b1 := Int.emod_nonneg (begin + stp * (j : Int)) (by decide : (26 : Int) ≠ 0)
          have b2 := Int.emod_lt_of_pos (begin + stp * (j : Int)) (by decide : (0 : Int) < 26)
          omega
        · exact hlt c hc
    · have hb6 := st6.bag
      obtain ⟨a1, a2, a3, a4, a5, a6⟩ := hb6
      refine ⟨⟨a1, a2, a3, a4, by rw [List.getElem?_set_ne hfb]; exact a5, a6⟩, by rw [List.length_set]; exact st6.len, fun l hl hlb => ?_⟩
      rw [List.getElem?_set_ne (by omega)]
      exact st6.old l hl hlb
  · intro d ds e S6 ⟨xs, x5, x9, x10, he, hds, hle, st6, hf6, hx⟩
    subst he
    have hlt : xs.length < count := by
      have : (rngL xs.length (count - xs.length)).length = ds.length + 1 := by rw [← hds]; rfl
      rw [rngL_len] at this
      omega
    obtain ⟨m, hm⟩ : ∃ m, count - xs.length = m + 1 := ⟨count - xs.length - 1, by omega⟩
    rw [hm] at hds
    injection hds with hd hds
    subst hd hds
    simp only [von_nil, von_pass, von_break, von_cont, von_retN, von_expr, von_ret, von_if, von_set, von_asg, von_par2, von_par3, von_for, von_var, von_C, von_aNil, von_aCons, von_tup, von_lst, von_lstM, von_opE, von_tV, von_chain, von_tAn, von_tOr, von_tNo, von_and, von_or, von_not, von_eIf, von_call, von_callD, von_CB, von_isi, von_isis, von_pNo, von_pSo, von_sl, von_fmt, von_joined, von_runJ0, von_runJ1, von_M1, von_append, von_frz, von_iOf, von_iR1, von_iR2, von_lc, von_dct, so_some, so_none, so_bind, so_map, so_ite, on_ok, on_exc, on_bad, on_of, on_ite, on_iteB, on_runB, son_ite, son_nx, son_rt, son_bk, son_ct, son_exc, son_bad, po_nx, po_rt, po_bk, po_ct, po_ex, Po.fn, start0_eq, asB_bl, der_non, der_bl, der_int, der_str, der_tup, der_lst, der_dct, opAdd_int, opAdd_str, opAdd_tup, opAdd_lst, opSub_int, opMul_int, opDiv_int, opMod_int, opLt_int, opLe_int, opGt_int, opGe_int, opEq_int, opNe_int, opIx_tup, opIx_lst, at0, at1, at2, at3, at4, fInt_int, fLen_tup, fLen_lst, fLen_dct, fLen_str, gvName_ap, tYesV_ap, gvSub_var, Option.bind_some, Option.map_some, get0, getS, set0, setS, List.getElem?_cons_zero, List.getElem?_cons_succ, List.set_cons_zero, List.set_cons_succ, List.map_cons, List.map_nil, List.length_cons, List.length_nil, List.replicate_succ, List.replicate_zero, List.cons_append, List.nil_append, List.append_nil, Nat.reduceAdd, Nat.reduceSub, Int.reduceSub, Int.reduceNeg, Int.reduceAdd, Nat.reduceMul, Nat.reduceLeDiff, LN, true_and, and_true, if_true, if_false, Bool.not_true, Bool.not_false, Bool.false_eq_true, reduceIte, decide_true, decide_false]
    refine seq_i fun R2 h2 => ?_
    simp only [von_nil, von_pass, von_break, von_cont, von_retN, von_expr, von_ret, von_if, von_set, von_asg, von_par2, von_par3, von_for, von_var, von_C, von_aNil, von_aCons, von_tup, von_lst, von_lstM, von_opE, von_tV, von_chain, von_tAn, von_tOr, von_tNo, von_and, von_or, von_not, von_eIf, von_call, von_callD, von_CB, von_isi, von_isis, von_pNo, von_pSo, von_sl, von_fmt, von_joined, von_runJ0, von_runJ1, von_M1, von_append, von_frz, von_iOf, von_iR1, von_iR2, von_lc, von_dct, so_some, so_none, so_bind, so_map, so_ite, on_ok, on_exc, on_bad, on_of, on_ite, on_iteB, on_runB, son_ite, son_nx, son_rt, son_bk, son_ct, son_exc, son_bad, po_nx, po_rt, po_bk, po_ct, po_ex, Po.fn, start0_eq, asB_bl, der_non, der_bl, der_int, der_str, der_tup, der_lst, der_dct, opAdd_int, opAdd_str, opAdd_tup, opAdd_lst, opSub_int, opMul_int, opDiv_int, opMod_int, opLt_int, opLe_int, opGt_int, opGe_int, opEq_int, opNe_int, opIx_tup, opIx_lst, at0, at1, at2, at3, at4, fInt_int, fLen_tup, fLen_lst, fLen_dct, fLen_str, gvName_ap, tYesV_ap, gvSub_var, Option.bind_some, Option.map_some, get0, getS, set0, setS, List.getElem?_cons_zero, List.getElem?_cons_succ, List.set_cons_zero, List.set_cons_succ, List.map_cons, List.map_nil, List.length_cons, List.length_nil, List.replicate_succ, List.replicate_zero, List.cons_append, List.nil_append, List.append_nil, Nat.reduceAdd, Nat.reduceSub, Int.reduceSub, Int.reduceNeg, Int.reduceAdd, Nat.reduceMul, Nat.reduceLeDiff, LN, true_and, and_true, if_true, if_false, Bool.not_true, Bool.not_false, Bool.false_eq_true, reduceIte, decide_true, decide_false, show (SX.S stem).length ≤ 16777216 from by rw [SX.S_len]; omega]
    rw [SX.S_len]
    refine take_on st6.bag (by omega) (by omega) fun n2 S7 m0 m1 st7 hl7 => ?_
    simp only [von_nil, von_pass, von_break, von_cont, von_retN, von_expr, von_ret, von_if, von_set, von_asg, von_par2, von_par3, von_for, von_var, von_C, von_aNil, von_aCons, von_tup, von_lst, von_lstM, von_opE, von_tV, von_chain, von_tAn, von_tOr, von_tNo, von_and, von_or, von_not, von_eIf, von_call, von_callD, von_CB, von_isi, von_isis, von_pNo, von_pSo, von_sl, von_fmt, von_joined, von_runJ0, von_runJ1, von_M1, von_append, von_frz, von_iOf, von_iR1, von_iR2, von_lc, von_dct, so_some, so_none, so_bind, so_map, so_ite, on_ok, on_exc, on_bad, on_of, on_ite, on_iteB, on_runB, son_ite, son_nx, son_rt, son_bk, son_ct, son_exc, son_bad, po_nx, po_rt, po_bk, po_ct, po_ex, Po.fn, start0_eq, asB_bl, der_non, der_bl, der_int, der_str, der_tup, der_lst, der_dct, opAdd_int, opAdd_str, opAdd_tup, opAdd_lst, opSub_int, opMul_int, opDiv_int, opMod_int, opLt_int, opLe_int, opGt_int, opGe_int, opEq_int, opNe_int, opIx_tup, opIx_lst, at0, at1, at2, at3, at4, fInt_int, fLen_tup, fLen_lst, fLen_dct, fLen_str, gvName_ap, tYesV_ap, gvSub_var, Option.bind_some, Option.map_some, get0, getS, set0, setS, List.getElem?_cons_zero, List.getElem?_cons_succ, List.set_cons_zero, List.set_cons_succ, List.map_cons, List.map_nil, List.length_cons, List.length_nil, List.replicate_succ, List.replicate_zero, List.cons_append, List.nil_append, List.append_nil, Nat.reduceAdd, Nat.reduceSub, Int.reduceSub, Int.reduceNeg, Int.reduceAdd, Nat.reduceMul, Nat.reduceLeDiff, LN, true_and, and_true, if_true, if_false, Bool.not_true, Bool.not_false, Bool.false_eq_true, reduceIte, decide_true, decide_false, rngL_len]
    refine ⟨⟨by omega, by omega⟩, by omega, ?_⟩
    refine letters_on (K := fun ys S => _) st7.bag (fun d => rfl) (fun d => rfl) n2.toNat fun t S8 hlow2 hlen2 st8 hl8 => ?_
    rw [joinD_S (by omega)]
    simp only [von_nil, von_pass, von_break, von_cont, von_retN, von_expr, von_ret, von_if, von_set, von_asg, von_par2, von_par3, von_for, von_var, von_C, von_aNil, von_aCons, von_tup, von_lst, von_lstM, von_opE, von_tV, von_chain, von_tAn, von_tOr, von_tNo, von_and, von_or, von_not, von_eIf, von_call, von_callD, von_CB, von_isi, von_isis, von_pNo, von_pSo, von_sl, von_fmt, von_joined, von_runJ0, von_runJ1, von_M1, von_append, von_frz, von_iOf, von_iR1, von_iR2, von_lc, von_dct, so_some, so_none, so_bind, so_map, so_ite, on_ok, on_exc, on_bad, on_of, on_ite, on_iteB, on_runB, son_ite, son_nx, son_rt, son_bk, son_ct, son_exc, son_bad, po_nx, po_rt, po_bk, po_ct, po_ex, Po.fn, start0_eq, asB_bl, der_non, der_bl, der_int, der_str, der_tup, der_lst, der_dct, opAdd_int, opAdd_str, opAdd_tup, opAdd_lst, opSub_int, opMul_int, opDiv_int, opMod_int, opLt_int, opLe_int, opGt_int, opGe_int, opEq_int, opNe_int, opIx_tup, opIx_lst, at0, at1, at2, at3, at4, fInt_int, fLen_tup, fLen_lst, fLen_dct, fLen_str, gvName_ap, tYesV_ap, gvSub_var, Option.bind_some, Option.map_some, get0, getS, set0, setS, List.getElem?_cons_zero, List.getElem?_cons_succ, List.set_cons_zero, List.set_cons_succ, List.map_cons, List.map_nil, List.length_cons, List.length_nil, List.replicate_succ, List.replicate_zero, List.cons_append, List.nil_append, List.append_nil, Nat.reduceAdd, Nat.reduceSub, Int.reduceSub, Int.reduceNeg, Int.reduceAdd, Nat.reduceMul, Nat.reduceLeDiff, LN, true_and, and_true, if_true, if_false, Bool.not_true, Bool.not_false, Bool.false_eq_true, reduceIte, decide_true, decide_false]
    refine h2 _ _ ?_
    clear h2 R2
    have st8 := st7.trans st8
    have hflt : f < S6.length := (List.getElem?_eq_some_iff.mp hf6).1
    have hf8 : S8[f]? = some (.lst (xs.map .str)) := (st8.old f hflt hfb).trans hf6
    have b1 := Int.emod_nonneg (begin + stp * (xs.length : Int)) (by decide : (26 : Int) ≠ 0)
    have b2 := Int.emod_lt_of_pos (begin + stp * (xs.length : Int)) (by decide : (0 : Int) < 26)
    have hmul : mulOk stp (xs.length : Int) = true := by
      refine mulOk_small ?_ ?_ <;> (simp only [List.mem_cons, List.not_mem_nil, or_false] at hstp; omega)
    simp only [von_nil, von_pass, von_break, von_cont, von_retN, von_expr, von_ret, von_if, von_set, von_asg, von_par2, von_par3, von_for, von_var, von_C, von_aNil, von_aCons, von_tup, von_lst, von_lstM, von_opE, von_tV, von_chain, von_tAn, von_tOr, von_tNo, von_and, von_or, von_not, von_eIf, von_call, von_callD, von_CB, von_isi, von_isis, von_pNo, von_pSo, von_sl, von_fmt, von_joined, von_runJ0, von_runJ1, von_M1, von_append, von_frz, von_iOf, von_iR1, von_iR2, von_lc, von_dct, so_some, so_none, so_bind, so_map, so_ite, on_ok, on_exc, on_bad, on_of, on_ite, on_iteB, on_runB, son_ite, son_nx, son_rt, son_bk, son_ct, son_exc, son_bad, po_nx, po_rt, po_bk, po_ct, po_ex, Po.fn, start0_eq, asB_bl, der_non, der_bl, der_int, der_str, der_tup, der_lst, der_dct, opAdd_int, opAdd_str, opAdd_tup, opAdd_lst, opSub_int, opMul_int, opDiv_int, opMod_int, opLt_int, opLe_int, opGt_int, opGe_int, opEq_int, opNe_int, opIx_tup, opIx_lst, at0, at1, at2, at3, at4, fInt_int, fLen_tup, fLen_lst, fLen_dct, fLen_str, gvName_ap, tYesV_ap, gvSub_var, Option.bind_some, Option.map_some, get0, getS, set0, setS, List.getElem?_cons_zero, List.getElem?_cons_succ, List.set_cons_zero, List.set_cons_succ, List.map_cons, List.map_nil, List.length_cons, List.length_nil, List.replicate_succ, List.replicate_zero, List.cons_append, List.nil_append, List.append_nil, Nat.reduceAdd, Nat.reduceSub, Int.reduceSub, Int.reduceNeg, Int.reduceAdd, Nat.reduceMul, Nat.reduceLeDiff, LN, true_and, and_true, if_true, if_false, Bool.not_true, Bool.not_false, Bool.false_eq_true, reduceIte, decide_true, decide_false, lstAt_at hf8, hmul, show (0 : Int) < 26 from by decide, abc_at b1 b2, SX.S_len, SX.S_cat, List.length_append, Option.isSome_some, List.length_map, show xs.length < 16777216 from by omega, show stem.length + 1 ≤ 16777216 from by omega, show stem.length + 1 + t.length ≤ 16777216 from by omega, List.append_assoc]
    have hset : ∀ mo, (S8.set f mo)[f]? = some mo := fun mo => List.getElem?_set_self (by have := st8.len; omega)
    refine ⟨xs ++ [SX.S (stem ++ ((97 + ((begin + stp * (xs.length : Int)) % 26).toNat) :: t))], _, _, _, rfl, ?_, ?_, ?_, ?_, ?_⟩
    · rw [List.length_append]
      show rngL (xs.length + 1) m = rngL ((xs.length + 1 : Nat) : Int) (count - (xs.length + 1))
      rw [show count - (xs.length + 1) = m by omega]
      rfl
    · rw [List.length_append]; show xs.length + 1 ≤ count; omega
    · have st := st6.trans st8
      have hb6 := st.bag
      obtain ⟨a1, a2, a3, a4, a5, a6⟩ := hb6
      refine ⟨⟨a1, a2, a3, a4, by rw [List.getElem?_set_ne hfb]; exact a5, a6⟩, by rw [List.length_set]; exact st.len, fun l hl hlb => ?_⟩
      rw [List.getElem?_set_ne (by omega)]
      exact st.old l hl hlb
    · rw [hset, List.map_append]; rfl
    · intro j x hj
      by_cases hjl : j < xs.length
      · rw [List.getElem?_append_left hjl] at hj
        exact hx j x hj
      · rw [List.getElem?_append_right (by omega)] at hj
        have : j = xs.length := by
          have := (List.getElem?_eq_some_iff.mp hj).1
          simp at this
          omega
        subst this
        rw [Nat.sub_self] at hj
        cases hj
        exact ⟨t, rfl, hlow2, by omega⟩
theorem names_on {S : Sto} {b count : Nat} {cap : Int} {K : D → Sto → Prop} {E : Exc → Sto → Prop} (hB : Bag S b) (hc : count ≤ 26) (h1 : 1 ≤ cap) (h2 : cap ≤ 500)
    (h : ∀ (xs : List Str) S2, xs.length = count → xs.Nodup → (∀ x ∈ xs, Nm cap x) → Stp b S S2 → K (.lst (xs.map .str)) S2) : (m_names [.loc b, .int count, .int cap] S).oo K E := by
  unfold m_names
  rw [on_runB]
  refine seq_i fun R hR => ?_
  simp only [von_nil, von_pass, von_break, von_cont, von_retN, von_expr, von_ret, von_if, von_set, von_asg, von_par2, von_par3, von_for, von_var, von_C, von_aNil, von_aCons, von_tup, von_lst, von_lstM, von_opE, von_tV, von_chain, von_tAn, von_tOr, von_tNo, von_and, von_or, von_not, von_eIf, von_call, von_callD, von_CB, von_isi, von_isis, von_pNo, von_pSo, von_sl, von_fmt, von_joined, von_runJ0, von_runJ1, von_M1, von_append, von_frz, von_iOf, von_iR1, von_iR2, von_lc, von_dct, so_some, so_none, so_bind, so_map, so_ite, on_ok, on_exc, on_bad, on_of, on_ite, on_iteB, on_runB, son_ite, son_nx, son_rt, son_bk, son_ct, son_exc, son_bad, po_nx, po_rt, po_bk, po_ct, po_ex, Po.fn, start0_eq, asB_bl, der_non, der_bl, der_int, der_str, der_tup, der_lst, der_dct, opAdd_int, opAdd_str, opAdd_tup, opAdd_lst, opSub_int, opMul_int, opDiv_int, opMod_int, opLt_int, opLe_int, opGt_int, opGe_int, opEq_int, opNe_int, opIx_tup, opIx_lst, at0, at1, at2, at3, at4, fInt_int, fLen_tup, fLen_lst, fLen_dct, fLen_str, gvName_ap, tYesV_ap, gvSub_var, Option.bind_some, Option.map_some, get0, getS, set0, setS, List.getElem?_cons_zero, List.getElem?_cons_succ, List.set_cons_zero, List.set_cons_succ, List.map_cons, List.map_nil, List.length_cons, List.length_nil, List.replicate_succ, List.replicate_zero, List.cons_append, List.nil_append, List.append_nil, Nat.reduceAdd, Nat.reduceSub, Int.reduceSub, Int.reduceNeg, Int.reduceAdd, Nat.reduceMul, Nat.reduceLeDiff, LN, true_and, and_true, if_true, if_false, Bool.not_true, Bool.not_false, Bool.false_eq_true, reduceIte, decide_true, decide_false]
  refine hR _ _ ?_
  clear hR R
  refine seq_i fun R hR => ?_
  simp only [von_nil, von_pass, von_break, von_cont, von_retN, von_expr, von_ret, von_if, von_set, von_asg, von_par2, von_par3, von_for, von_var, von_C, von_aNil, von_aCons, von_tup, von_lst, von_lstM, von_opE, von_tV, von_chain, von_tAn, von_tOr, von_tNo, von_and, von_or, von_not, von_eIf, von_call, von_callD, von_CB, von_isi, von_isis, von_pNo, von_pSo, von_sl, von_fmt, von_joined, von_runJ0, von_runJ1, von_M1, von_append, von_frz, von_iOf, von_iR1, von_iR2, von_lc, von_dct, so_some, so_none, so_bind, so_map, so_ite, on_ok, on_exc, on_bad, on_of, on_ite, on_iteB, on_runB, son_ite, son_nx, son_rt, son_bk, son_ct, son_exc, son_bad, po_nx, po_rt, po_bk, po_ct, po_ex, Po.fn, start0_eq, asB_bl, der_non, der_bl, der_int, der_str, der_tup, der_lst, der_dct, opAdd_int, opAdd_str, opAdd_tup, opAdd_lst, opSub_int, opMul_int, opDiv_int, opMod_int, opLt_int, opLe_int, opGt_int, opGe_int, opEq_int, opNe_int, opIx_tup, opIx_lst, at0, at1, at2, at3, at4, fInt_int, fLen_tup, fLen_lst, fLen_dct, fLen_str, gvName_ap, tYesV_ap, gvSub_var, Option.bind_some, Option.map_some, get0, getS, set0, setS, List.getElem?_cons_zero, List.getElem?_cons_succ, List.set_cons_zero, List.set_cons_succ, List.map_cons, List.map_nil, List.length_cons, List.length_nil, List.replicate_succ, List.replicate_zero, List.cons_append, List.nil_append, List.append_nil, Nat.reduceAdd, Nat.reduceSub, Int.reduceSub, Int.reduceNeg, Int.reduceAdd, Nat.reduceMul, Nat.reduceLeDiff, LN, true_and, and_true, if_true, if_false, Bool.not_true, Bool.not_false, Bool.false_eq_true, reduceIte, decide_true, decide_false]
  refine take_on hB (by omega) (by omega) fun n S1 n0 n1 st1 hl1 => ?_
  simp only [von_nil, von_pass, von_break, von_cont, von_retN, von_expr, von_ret, von_if, von_set, von_asg, von_par2, von_par3, von_for, von_var, von_C, von_aNil, von_aCons, von_tup, von_lst, von_lstM, von_opE, von_tV, von_chain, von_tAn, von_tOr, von_tNo, von_and, von_or, von_not, von_eIf, von_call, von_callD, von_CB, von_isi, von_isis, von_pNo, von_pSo, von_sl, von_fmt, von_joined, von_runJ0, von_runJ1, von_M1, von_append, von_frz, von_iOf, von_iR1, von_iR2, von_lc, von_dct, so_some, so_none, so_bind, so_map, so_ite, on_ok, on_exc, on_bad, on_of, on_ite, on_iteB, on_runB, son_ite, son_nx, son_rt, son_bk, son_ct, son_exc, son_bad, po_nx, po_rt, po_bk, po_ct, po_ex, Po.fn, start0_eq, asB_bl, der_non, der_bl, der_int, der_str, der_tup, der_lst, der_dct, opAdd_int, opAdd_str, opAdd_tup, opAdd_lst, opSub_int, opMul_int, opDiv_int, opMod_int, opLt_int, opLe_int, opGt_int, opGe_int, opEq_int, opNe_int, opIx_tup, opIx_lst, at0, at1, at2, at3, at4, fInt_int, fLen_tup, fLen_lst, fLen_dct, fLen_str, gvName_ap, tYesV_ap, gvSub_var, Option.bind_some, Option.map_some, get0, getS, set0, setS, List.getElem?_cons_zero, List.getElem?_cons_succ, List.set_cons_zero, List.set_cons_succ, List.map_cons, List.map_nil, List.length_cons, List.length_nil, List.replicate_succ, List.replicate_zero, List.cons_append, List.nil_append, List.append_nil, Nat.reduceAdd, Nat.reduceSub, Int.reduceSub, Int.reduceNeg, Int.reduceAdd, Nat.reduceMul, Nat.reduceLeDiff, LN, true_and, and_true, if_true, if_false, Bool.not_true, Bool.not_false, Bool.false_eq_true, reduceIte, decide_true, decide_false, rngL_len]
  refine ⟨⟨by omega, by omega⟩, by omega, ?_⟩
  refine letters_on (K := fun ys S => _) st1.bag (fun d => rfl) (fun d => rfl) n.toNat fun stem S2 hlow hlen st2 hl2 => ?_
  rw [joinD_S (by omega)]
  simp only [von_nil, von_pass, von_break, von_cont, von_retN, von_expr, von_ret, von_if, von_set, von_asg, von_par2, von_par3, von_for, von_var, von_C, von_aNil, von_aCons, von_tup, von_lst, von_lstM, von_opE, von_tV, von_chain, von_tAn, von_tOr, von_tNo, von_and, von_or, von_not, von_eIf, von_call, von_callD, von_CB, von_isi, von_isis, von_pNo, von_pSo, von_sl, von_fmt, von_joined, von_runJ0, von_runJ1, von_M1, von_append, von_frz, von_iOf, von_iR1, von_iR2, von_lc, von_dct, so_some, so_none, so_bind, so_map, so_ite, on_ok, on_exc, on_bad, on_of, on_ite, on_iteB, on_runB, son_ite, son_nx, son_rt, son_bk, son_ct, son_exc, son_bad, po_nx, po_rt, po_bk, po_ct, po_ex, Po.fn, start0_eq, asB_bl, der_non, der_bl, der_int, der_str, der_tup, der_lst, der_dct, opAdd_int, opAdd_str, opAdd_tup, opAdd_lst, opSub_int, opMul_int, opDiv_int, opMod_int, opLt_int, opLe_int, opGt_int, opGe_int, opEq_int, opNe_int, opIx_tup, opIx_lst, at0, at1, at2, at3, at4, fInt_int, fLen_tup, fLen_lst, fLen_dct, fLen_str, gvName_ap, tYesV_ap, gvSub_var, Option.bind_some, Option.map_some, get0, getS, set0, setS, List.getElem?_cons_zero, List.getElem?_cons_succ, List.set_cons_zero, List.set_cons_succ, List.map_cons, List.map_nil, List.length_cons, List.length_nil, List.replicate_succ, List.replicate_zero, List.cons_append, List.nil_append, List.append_nil, Nat.reduceAdd, Nat.reduceSub, Int.reduceSub, Int.reduceNeg, Int.reduceAdd, Nat.reduceMul, Nat.reduceLeDiff, LN, true_and, and_true, if_true, if_false, Bool.not_true, Bool.not_false, Bool.false_eq_true, reduceIte, decide_true, decide_false]
  refine hR _ _ ?_
  clear hR R
  have st2 := st1.trans st2
  refine seq_i fun R hR => ?_
  simp only [von_nil, von_pass, von_break, von_cont, von_retN, von_expr, von_ret, von_if, von_set, von_asg, von_par2, von_par3, von_for, von_var, von_C, von_aNil, von_aCons, von_tup, von_lst, von_lstM, von_opE, von_tV, von_chain, von_tAn, von_tOr, von_tNo, von_and, von_or, von_not, von_eIf, von_call, von_callD, von_CB, von_isi, von_isis, von_pNo, von_pSo, von_sl, von_fmt, von_joined, von_runJ0, von_runJ1, von_M1, von_append, von_frz, von_iOf, von_iR1, von_iR2, von_lc, von_dct, so_some, so_none, so_bind, so_map, so_ite, on_ok, on_exc, on_bad, on_of, on_ite, on_iteB, on_runB, son_ite, son_nx, son_rt, son_bk, son_ct, son_exc, son_bad, po_nx, po_rt, po_bk, po_ct, po_ex, Po.fn, start0_eq, asB_bl, der_non, der_bl, der_int, der_str, der_tup, der_lst, der_dct, opAdd_int, opAdd_str, opAdd_tup, opAdd_lst, opSub_int, opMul_int, opDiv_int, opMod_int, opLt_int, opLe_int, opGt_int, opGe_int, opEq_int, opNe_int, opIx_tup, opIx_lst, at0, at1, at2, at3, at4, fInt_int, fLen_tup, fLen_lst, fLen_dct, fLen_str, gvName_ap, tYesV_ap, gvSub_var, Option.bind_some, Option.map_some, get0, getS, set0, setS, List.getElem?_cons_zero, List.getElem?_cons_succ, List.set_cons_zero, List.set_cons_succ, List.map_cons, List.map_nil, List.length_cons, List.length_nil, List.replicate_succ, List.replicate_zero, List.cons_append, List.nil_append, List.append_nil, Nat.reduceAdd, Nat.reduceSub, Int.reduceSub, Int.reduceNeg, Int.reduceAdd, Nat.reduceMul, Nat.reduceLeDiff, LN, true_and, and_true, if_true, if_false, Bool.not_true, Bool.not_false, Bool.false_eq_true, reduceIte, decide_true, decide_false]
  refine take_on st2.bag (by decide) (by decide) fun begin S3 g0 g1 st3 hl3 => ?_
  refine of_lst st3.bag (by decide) (by decide) fun step S4 hstep st4 hl4 => ?_
  have st4 := st2.trans (st3.trans st4)
  obtain ⟨stp, rfl, hstp⟩ : ∃ s, step = .int s ∧ s ∈ ([1, 3, 5, 7, 11, 25] : List Int) := by
    simp only [List.mem_cons, List.not_mem_nil, or_false] at hstep
    rcases hstep with rfl | rfl | rfl | rfl | rfl | rfl <;> exact ⟨_, rfl, by decide⟩
  clear hstep
  refine hR _ _ ?_
  clear hR R
  have st5 : Stp b S (S4 ++ [.lst []]) := by
    have hlt := st4.bag.lt
    obtain ⟨a1, a2, a3, a4, a5, a6⟩ := st4.bag
    refine ⟨⟨a1, a2, a3, a4, by rw [List.getElem?_append_left hlt]; exact a5, a6⟩, by rw [List.length_append]; have := st4.len; omega, fun l hl hb => ?_⟩
    have := st4.len
    rw [List.getElem?_append_left (by omega)]
    exact st4.old l hl hb
  have hf : (S4 ++ [.lst []])[S4.length]? = some (.lst []) := by simp
  have hfb : S4.length ≠ b := by have := st4.bag.lt; omega
  have hfS : S.length ≤ S4.length := st4.len
  exact names_loop hc h1 h2 h hlow (by omega) g0 g1 hstp st5 hf hfb hfS
end PL

/-! DH3: what the new mirrors give. -/
namespace DL
open PySem PySem.Spec PyProof.Rows L2
section
variable {e : DL.Env} {S : Sto} {P : Po} {K : D → Sto → Prop} {E : Exc → Sto → Prop}
theorem von_raise' (c : Nat) (cd : Str) (ns : List Str) (is : List Nat) (fr : Av) : (sRaise c cd ns is fr e S).on P = (fr e S).on (fun ds S => (ds.length = ns.length ∧ msgAll S ds is = true) ∧ P.ex (excD c cd ns ds) e S) (fun x S => P.ex x e S) := by
  refine (on_into' _ _ _ _).trans ?_
  congr 1
  funext ds S
  by_cases h : ds.length = ns.length ∧ msgAll S ds is = true
  · rw [if_pos h]; exact propext ⟨fun q => ⟨h, q⟩, fun q => q.2⟩
  · rw [if_neg h]; exact propext ⟨fun q => (show False from q).elim, fun q => (h q.1).elim⟩
theorem von_raise (c : Nat) (cd : Str) (ns : List Str) (is : List Nat) (fr : Av) : (sRaise c cd ns is fr e S).oo P = (fr e S).oo (fun ds S => (ds.length = ns.length ∧ msgAll S ds is = true) ∧ P.ex (excD c cd ns ds) e S) (fun x S => P.ex x e S) := by
  simp only [so_eq, oo_eq, ooS_eq]
  apply von_raise'
theorem attr_on {cs : List Nat} {n : Str} {fo fv : Ev} {l c : Nat} {fs : List (Str × D)} {d : D} (hv : fv e S = .ok d S) (ho : fo e S = .ok (.loc l) S) (hl : S[l]? = some (.ins c fs)) (hc : cs.contains c = true) (hf : fs.length ≤ 100)
    (h : P.nx e (S.set l (.ins c (putFD n d fs)))) : (sAttr cs n fo fv e S).oo P := by
  rw [ooS_eq]
  unfold sAttr
  rw [hv]
  show ((fo e S).into e _).on P
  rw [ho]
  show (match S[l]? with | some (.ins c fs) => _ | _ => Out.bad).on P
  rw [hl]
  show (if cs.contains c = true ∧ fs.length ≤ 100 then _ else Out.bad).on P
  rw [if_pos ⟨hc, hf⟩]
  exact h
theorem von_xattr' (cs : List Nat) (n : Str) (fa : Ev) : (eXattr cs n fa e S).on K E = (fa e S).on (fun d S => match d with | .exc c fs => cs.contains c = true ∧ So' (fs.lookup n) fun v => K v S | _ => False) E := by
  refine (on_bind' _ _ _ _).trans ?_
  congr 1
  funext d S
  cases d with
  | exc c fs =>
    by_cases h : cs.contains c = true
    · exact (on_iteB' _ _ _ _).trans (congrArg _ (on_of' _ _ _ _))
    · exact (on_iteB' _ _ _ _).trans (congrArg _ (on_of' _ _ _ _))
  | _ => rfl
theorem von_xattr (cs : List Nat) (n : Str) (fa : Ev) : (eXattr cs n fa e S).oo K E = (fa e S).oo (fun d S => match d with | .exc c fs => cs.contains c = true ∧ So (fs.lookup n) fun v => K v S | _ => False) E := by
  simp only [so_eq, oo_eq, ooS_eq]
  apply von_xattr'
theorem von_callW' (n : Nat) (m : Fn) (fr : Av) : (eCallW n m fr e S).on K E = (fr e S).on (fun ds S => ds.length = n ∧ (m ds S).on K (fun _ _ => False)) E := by
  refine (on_bind' _ _ _ _).trans ?_
  congr 1
  funext ds S
  refine (on_iteB' _ _ _ _).trans ?_
  rw [on_noE']
theorem von_callW (n : Nat) (m : Fn) (fr : Av) : (eCallW n m fr e S).oo K E = (fr e S).oo (fun ds S => ds.length = n ∧ (m ds S).oo K (fun _ _ => False)) E := by
  simp only [so_eq, oo_eq, ooS_eq]
  apply von_callW'
theorem von_eLam' (mT : (Sto → Ret D) → Sto → Ret D) (fb : Ev) : (eLam mT fb e S).on K E = (mT (fb e) S).on K (fun _ _ => False) := on_noE' _ _ _
theorem von_eLam (mT : (Sto → Ret D) → Sto → Ret D) (fb : Ev) : (eLam mT fb e S).oo K E = (mT (fb e) S).oo K (fun _ _ => False) := by
  simp only [so_eq, oo_eq, ooS_eq]
  apply von_eLam'
theorem von_make' (np nk N c : Nat) (m : Fn) (gD : List D → List D → List D) (fr fk : Av) : (eMake np nk N c m gD fr fk e S).on K E = (fr e S).on (fun ds S => (fk e S).on (fun zs S => ((ds.length = np ∧ zs.length = nk) ∧ (gD (.loc S.length :: ds) zs).length = N) ∧ (m (gD (.loc S.length :: ds) zs) (S ++ [.ins c []])).on (fun r S' => match r with | .non => K (.loc S.length) S' | _ => False) E) E) E := by
  refine (on_bind' _ _ _ _).trans ?_
  congr 1
  funext ds S
  refine (on_bind' _ _ _ _).trans ?_
  congr 1
  funext zs S
  refine (on_iteB' _ _ _ _).trans ?_
  congr 1
  refine (on_bind' _ _ _ _).trans ?_
  congr 1
  funext r S'
  cases r <;> rfl
theorem von_make (np nk N c : Nat) (m : Fn) (gD : List D → List D → List D) (fr fk : Av) : (eMake np nk N c m gD fr fk e S).oo K E = (fr e S).oo (fun ds S => (fk e S).oo (fun zs S => ((ds.length = np ∧ zs.length = nk) ∧ (gD (.loc S.length :: ds) zs).length = N) ∧ (m (gD (.loc S.length :: ds) zs) (S ++ [.ins c []])).oo (fun r S' => match r with | .non => K (.loc S.length) S' | _ => False) E) E) E := by
  simp only [so_eq, oo_eq, ooS_eq]
  apply von_make'
theorem von_neg' (fa : Ev) : (eNeg fa e S).on K E = (fa e S).on (fun d S => match d with | .int i => K (.int (-i)) S | _ => False) E := by
  refine (on_bind' _ _ _ _).trans ?_
  congr 1
  funext d S
  cases d <;> rfl
theorem von_neg (fa : Ev) : (eNeg fa e S).oo K E = (fa e S).oo (fun d S => match d with | .int i => K (.int (-i)) S | _ => False) E := by
  simp only [oo_eq]
  apply von_neg'
theorem forL_nil (G : Gv) (f : Sv) : (forL G f [] e S).oo P = P.nx e S := by
  rw [ooS_eq]; rfl
theorem forL_cons' (G : Gv) (f : Sv) (d : D) (ds : List D) : (forL G f (d :: ds) e S).on P = So' (G d e S) fun r => (f r.1 r.2).on ⟨fun e S => (forL G f ds e S).on P, P.rt, P.nx, fun e S => (forL G f ds e S).on P, P.ex⟩ := by
  rw [forL]
  cases G d e S with
  | none => rfl
  | some r =>
    show Out.on (match f r.1 r.2 with | .nx e2 S2 => forL G f ds e2 S2 | .ct e2 S2 => forL G f ds e2 S2 | .bk e2 S2 => .nx e2 S2 | o => o) P = (f r.1 r.2).on _
    cases f r.1 r.2 <;> rfl
theorem forL_cons (G : Gv) (f : Sv) (d : D) (ds : List D) : (forL G f (d :: ds) e S).oo P = So (G d e S) fun r => (f r.1 r.2).oo ⟨fun e S => (forL G f ds e S).oo P, P.rt, P.nx, fun e S => (forL G f ds e S).oo P, P.ex⟩ := by
  simp only [so_eq, ooS_eq]
  apply forL_cons'
end
end DL

namespace KG
open PySem PySem.Spec PyProof.Rows L2 DL PL

theorem e_take : m_law_take = m_take := rfl
theorem e_of : m_law_of = m_of := rfl
theorem e_bag : m_law_bag = m_bag := rfl
theorem e_names : m_law_names = m_names := rfl

/-! ### same -/
inductive Atm : D → Prop where
  | non : Atm .non
  | bl (b : Bool) : Atm (.bl b)
  | int (i : Int) : Atm (.int i)
  | str (x : Str) : Atm (.str x)
def Smp : Nat → D → Prop
  | 0, d => Atm d
  | n + 1, d => Atm d ∨ ∃ xs : List D, (d = .tup xs ∨ d = .lst xs) ∧ xs.length ≤ 1000 ∧ ∀ x ∈ xs, Smp n x
theorem opNe_bl (a b : Bool) (S : Sto) : opNe (.bl a) (.bl b) S = some (.bl (a != b)) := by cases a <;> cases b <;> rfl
theorem opEq_bl (a b : Bool) (S : Sto) : opEq (.bl a) (.bl b) S = some (.bl (a == b)) := by cases a <;> cases b <;> rfl
theorem eqOk_str (a b : Str) : eqOk (.str a) (.str b) = true := rfl
theorem opEq_str (a b : Str) (S : Sto) : opEq (.str a) (.str b) S = some (.bl (a == b)) := by
  show (if eqOk (.str a) (.str b) = true then some (D.bl (PyData.eqv (.str a) (.str b))) else none) = _
  rw [if_pos (eqOk_str a b)]
  simp only [PyData.eqv]
theorem opNe_str (a b : Str) (S : Sto) : opNe (.str a) (.str b) S = some (.bl (!(a == b))) := by
  show (if eqOk (.str a) (.str b) = true then some (D.bl (!PyData.eqv (.str a) (.str b))) else none) = _
  rw [if_pos (eqOk_str a b)]
  simp only [PyData.eqv]
theorem on_eq {r : Ret D} {v : D} {S0 : Sto} (h : r.oo (fun d S => d = v ∧ S = S0) (fun _ _ => False)) : r = .ok v S0 := by
  unfold Ret.oo Ret.on at h
  cases r with
  | ok a S => obtain ⟨rfl, rfl⟩ := h; rfl
  | exc e S => exact h.elim
  | bad => exact h.elim
theorem same_atm {d : D} (h : Atm d) (n : Nat) (S : Sto) : m_law_same (n + 1) [d, d] S = .ok (.bl true) S := by
  apply on_eq
  unfold m_law_same fb_law_same
  cases h <;> simp only [von_nil, von_pass, von_break, von_cont, von_retN, von_expr, von_ret, von_if, von_set, von_asg, von_par2, von_par3, von_for, von_var, von_C, von_aNil, von_aCons, von_tup, von_lst, von_lstM, von_opE, von_tV, von_chain, von_tAn, von_tOr, von_tNo, von_and, von_or, von_not, von_eIf, von_call, von_callD, von_CB, von_isi, von_isis, von_pNo, von_pSo, von_sl, von_fmt, von_joined, von_runJ0, von_runJ1, von_M1, von_append, von_frz, von_iOf, von_iR1, von_iR2, von_lc, von_dct, so_some, so_none, so_bind, so_map, so_ite, on_ok, on_exc, on_bad, on_of, on_ite, on_iteB, on_runB, son_ite, son_nx, son_rt, son_bk, son_ct, son_exc, son_bad, po_nx, po_rt, po_bk, po_ct, po_ex, Po.fn, start0_eq, asB_bl, der_non, der_bl, der_int, der_str, der_tup, der_lst, der_dct, opAdd_int, opAdd_str, opAdd_tup, opAdd_lst, opSub_int, opMul_int, opDiv_int, opMod_int, opLt_int, opLe_int, opGt_int, opGe_int, opEq_int, opNe_int, opIx_tup, opIx_lst, at0, at1, at2, at3, at4, fInt_int, fLen_tup, fLen_lst, fLen_dct, fLen_str, gvName_ap, tYesV_ap, gvSub_var, Option.bind_some, Option.map_some, get0, getS, set0, setS, List.getElem?_cons_zero, List.getElem?_cons_succ, List.set_cons_zero, List.set_cons_succ, List.map_cons, List.map_nil, List.length_cons, List.length_nil, List.replicate_succ, List.replicate_zero, List.cons_append, List.nil_append, List.append_nil, Nat.reduceAdd, Nat.reduceSub, Int.reduceSub, Int.reduceNeg, Int.reduceAdd, Nat.reduceMul, Nat.reduceLeDiff, LN, true_and, and_true, if_true, if_false, Bool.not_true, Bool.not_false, Bool.false_eq_true, reduceIte, decide_true, decide_false, von_seq, opNe_bl, opEq_bl, opEq_str, opIsN, isNonD, isK, isKs, bne_self_eq_false, beq_self_eq_true]
theorem rngL_mem : ∀ {n : Nat} {lo : Int} {d : D}, d ∈ rngL lo n → ∃ j : Nat, d = .int (lo + j) ∧ j < n
  | 0, _, _, h => by simp [rngL] at h
  | n + 1, lo, d, h => by
    rcases List.mem_cons.mp h with rfl | h
    · exact ⟨0, by simp, by omega⟩
    · obtain ⟨j, rfl, hj⟩ := rngL_mem h
      exact ⟨j + 1, by congr 1; omega, by omega⟩
theorem filterMap_none {α β : Type} : ∀ l : List α, l.filterMap (fun _ => (none : Option β)) = []
  | [] => rfl
  | _ :: l => filterMap_none l
theorem eq_nn (S : Sto) : opEq (.lst []) (.lst []) S = some (.bl true) := rfl
theorem same_seq {d : D} {xs : List D} {n : Nat} (S : Sto) (hd : d = .tup xs ∨ d = .lst xs) (hl : xs.length ≤ 1000) (h : ∀ x ∈ xs, m_law_same n [x, x] S = .ok (.bl true) S) : m_law_same (n + 1) [d, d] S = .ok (.bl true) S := by
  apply on_eq
  unfold m_law_same fb_law_same
  have hl2 : xs.length ≤ 16777216 := by omega
  have hr : -2 ^ 62 ≤ (xs.length : Int) := by omega
  have hr2 : (xs.length : Int) < 2 ^ 62 := by omega
  have key : ∀ (d : D), (∀ i : Int, opIx d (.int i) S = atI xs i) → ∀ x ∈ rngL 0 xs.length, lcTurn (gvName 2) (tNo (tV (eCall 2 (m_law_same n) [] (aCons (eOp opIx (eVar 0) (eVar 2)) (aCons (eOp opIx (eVar 1) (eVar 2)) aNil))))) (eVar 2) [2] [some d, some d, none] x S = .ok none S := by
    intro d hix x hx
    obtain ⟨j, rfl, hj⟩ := rngL_mem hx
    unfold lcTurn
    have e0 : atI xs (0 + (j : Int)) = some xs[j] := by
      rw [Int.zero_add]; exact atI_nat (List.getElem?_eq_getElem hj)
    have e1 : opIx d (.int (0 + (j : Int))) S = some xs[j] := (hix _).trans e0
    have e2 := h xs[j] (List.getElem_mem hj)
    show ((tNo (tV (eCall 2 (m_law_same n) [] (aCons (eOp opIx (eVar 0) (eVar 2)) (aCons (eOp opIx (eVar 1) (eVar 2)) aNil))))) [some d, some d, some (D.int (0 + (j : Int)))] S).bind _ = _
    have e3 : (tNo (tV (eCall 2 (m_law_same n) [] (aCons (eOp opIx (eVar 0) (eVar 2)) (aCons (eOp opIx (eVar 1) (eVar 2)) aNil))))) [some d, some d, some (D.int (0 + (j : Int)))] S = .ok false S := by
      simp only [tNo, tV, eCall, aCons, eOp, eVar, aNil, get0, getS, List.getElem?_cons_zero, List.getElem?_cons_succ, Ret.bind, e1, Ret.of, e2, asB, List.append_nil, List.length_cons, List.length_nil, if_true, Nat.reduceAdd, Bool.not_true, reduceIte]
    rw [e3]; rfl
  rcases hd with rfl | rfl
  · simp only [von_nil, von_pass, von_break, von_cont, von_retN, von_expr, von_ret, von_if, von_set, von_asg, von_par2, von_par3, von_for, von_var, von_C, von_aNil, von_aCons, von_tup, von_lst, von_lstM, von_opE, von_tV, von_chain, von_tAn, von_tOr, von_tNo, von_and, von_or, von_not, von_eIf, von_call, von_callD, von_CB, von_isi, von_isis, von_pNo, von_pSo, von_sl, von_fmt, von_joined, von_runJ0, von_runJ1, von_M1, von_append, von_frz, von_iOf, von_iR1, von_iR2, von_lc, von_dct, so_some, so_none, so_bind, so_map, so_ite, on_ok, on_exc, on_bad, on_of, on_ite, on_iteB, on_runB, son_ite, son_nx, son_rt, son_bk, son_ct, son_exc, son_bad, po_nx, po_rt, po_bk, po_ct, po_ex, Po.fn, start0_eq, asB_bl, der_non, der_bl, der_int, der_str, der_tup, der_lst, der_dct, opAdd_int, opAdd_str, opAdd_tup, opAdd_lst, opSub_int, opMul_int, opDiv_int, opMod_int, opLt_int, opLe_int, opGt_int, opGe_int, opEq_int, opNe_int, opIx_tup, opIx_lst, at0, at1, at2, at3, at4, fInt_int, fLen_tup, fLen_lst, fLen_dct, fLen_str, gvName_ap, tYesV_ap, gvSub_var, Option.bind_some, Option.map_some, get0, getS, set0, setS, List.getElem?_cons_zero, List.getElem?_cons_succ, List.set_cons_zero, List.set_cons_succ, List.map_cons, List.map_nil, List.length_cons, List.length_nil, List.replicate_succ, List.replicate_zero, List.cons_append, List.nil_append, List.append_nil, Nat.reduceAdd, Nat.reduceSub, Int.reduceSub, Int.reduceNeg, Int.reduceAdd, Nat.reduceMul, Nat.reduceLeDiff, LN, true_and, and_true, if_true, if_false, Bool.not_true, Bool.not_false, Bool.false_eq_true, reduceIte, decide_true, decide_false, von_seq, opNe_bl, opEq_bl, opEq_str, opIsN, isNonD, isK, isKs, bne_self_eq_false, beq_self_eq_true, hl2, hr, hr2, Int.toNat_natCast, rngL_len, wipeE, lcRun_map (fun _ => none) (key (.tup xs) fun _ => rfl), filterMap_none, eq_nn]
  · simp only [von_nil, von_pass, von_break, von_cont, von_retN, von_expr, von_ret, von_if, von_set, von_asg, von_par2, von_par3, von_for, von_var, von_C, von_aNil, von_aCons, von_tup, von_lst, von_lstM, von_opE, von_tV, von_chain, von_tAn, von_tOr, von_tNo, von_and, von_or, von_not, von_eIf, von_call, von_callD, von_CB, von_isi, von_isis, von_pNo, von_pSo, von_sl, von_fmt, von_joined, von_runJ0, von_runJ1, von_M1, von_append, von_frz, von_iOf, von_iR1, von_iR2, von_lc, von_dct, so_some, so_none, so_bind, so_map, so_ite, on_ok, on_exc, on_bad, on_of, on_ite, on_iteB, on_runB, son_ite, son_nx, son_rt, son_bk, son_ct, son_exc, son_bad, po_nx, po_rt, po_bk, po_ct, po_ex, Po.fn, start0_eq, asB_bl, der_non, der_bl, der_int, der_str, der_tup, der_lst, der_dct, opAdd_int, opAdd_str, opAdd_tup, opAdd_lst, opSub_int, opMul_int, opDiv_int, opMod_int, opLt_int, opLe_int, opGt_int, opGe_int, opEq_int, opNe_int, opIx_tup, opIx_lst, at0, at1, at2, at3, at4, fInt_int, fLen_tup, fLen_lst, fLen_dct, fLen_str, gvName_ap, tYesV_ap, gvSub_var, Option.bind_some, Option.map_some, get0, getS, set0, setS, List.getElem?_cons_zero, List.getElem?_cons_succ, List.set_cons_zero, List.set_cons_succ, List.map_cons, List.map_nil, List.length_cons, List.length_nil, List.replicate_succ, List.replicate_zero, List.cons_append, List.nil_append, List.append_nil, Nat.reduceAdd, Nat.reduceSub, Int.reduceSub, Int.reduceNeg, Int.reduceAdd, Nat.reduceMul, Nat.reduceLeDiff, LN, true_and, and_true, if_true, if_false, Bool.not_true, Bool.not_false, Bool.false_eq_true, reduceIte, decide_true, decide_false, von_seq, opNe_bl, opEq_bl, opEq_str, opIsN, isNonD, isK, isKs, bne_self_eq_false, beq_self_eq_true, hl2, hr, hr2, Int.toNat_natCast, rngL_len, wipeE, lcRun_map (fun _ => none) (key (.lst xs) fun _ => rfl), filterMap_none, eq_nn]
theorem same_ok : ∀ (n : Nat) {d : D} (S : Sto), Smp n d → m_law_same (n + 1) [d, d] S = .ok (.bl true) S
  | 0, d, S, h => same_atm h 0 S
  | n + 1, d, S, h => by
    rcases h with h | ⟨xs, hd, hl, h⟩
    · exact same_atm h _ S
    · exact same_seq S hd hl fun x hx => same_ok n S (h x hx)

/-! ### the judges, as functions -/
/-- what may be judged -/
def Sc : D → Prop
  | .loc _ => False
  | .ins _ _ => False
  | .exc _ _ => False
  | .str x => x.length ≤ 1000
  | _ => True
def Val (d : D) : Prop := Sc d ∧ ∀ xs, d = .tup xs → xs.length ≤ 1000 ∧ ∀ x ∈ xs, Sc x
theorem Sc.der {d : D} (h : Sc d) (S : Sto) : der S d = d := by cases d <;> first | rfl | exact h.elim
theorem der_frz (S : Sto) (x : List D) : der S (.frz x) = .frz x := rfl
def signs (x : Str) : List D := x.cps.toList.map fun c => D.str (SX.S [c])
theorem signs_len (x : Str) : (signs x).length = x.length := by simp [signs, Str.length]
theorem any_str (x : Str) : asAny (.str x) = some (signs x) := rfl
theorem in_S (c : Nat) (l : List Nat) (S : Sto) : opIn (.str (SX.S [c])) (.str (SX.S l)) S = some (.bl (decide (c ∈ l))) := by
  show (some (!(Builtin.Str.occurrences (SX.S l) (SX.S [c]) 0 (SX.S l).length 1).isEmpty)).map D.bl = _
  rw [SX.in_one]; rfl
theorem notIn_S (c : Nat) (l : List Nat) (S : Sto) : opNotIn (.str (SX.S [c])) (.str (SX.S l)) S = some (.bl (!decide (c ∈ l))) := by
  show (some (!(Builtin.Str.occurrences (SX.S l) (SX.S [c]) 0 (SX.S l).length 1).isEmpty)).map (fun b => D.bl (!b)) = _
  rw [SX.in_one]; rfl
def allIn (l : List Nat) (x : Str) : Bool := x.cps.toList.all fun c => decide (c ∈ l)
theorem blsOf_map (f : Nat → Bool) : ∀ l : List Nat, blsOf (l.map fun c => .bl (f c)) = some (l.map f)
  | [] => rfl
  | c :: l => by
    show (blsOf (l.map fun c => .bl (f c))).map (f c :: ·) = _
    rw [blsOf_map f l]; rfl
def fIn (l : List Nat) : D → Option D
  | .str y => some (.bl (decide (y.cps.toList.getD 0 0 ∈ l)))
  | _ => none
def fOut (l : List Nat) : D → Option D
  | .str y => if y.cps.toList.getD 0 0 ∈ l then none else some (.str y)
  | _ => none
/-- all([sign in letters for sign in text]) -/
theorem all_in {l : List Nat} {ec : Ev} (hc : ∀ e S, ec e S = .ok (.str (SX.S l)) S) (x : Str) (o : Option D) (S : Sto) (hx : x.length ≤ 1000) :
    eCB fAll (aCons (eLc (iOf asAny (eVar 0)) (gvName 1) tYesV (eOp opIn (eVar 1) ec) [1]) aNil) [some (.str x), o] S = .ok (.bl (allIn l x)) S := by
  have hl : (signs x).length ≤ LN := by rw [signs_len]; unfold LN; omega
  have e1 : lcRun (gvName 1) tYesV (eOp opIn (eVar 1) ec) [1] [some (.str x), none] (signs x) S = .ok ((signs x).filterMap (fIn l)) S := by
    refine lcRun_map _ fun d hd => ?_
    obtain ⟨c, _, rfl⟩ := List.mem_map.mp hd
    unfold lcTurn
    show Ret.bind (tYesV [some (.str x), some (.str (SX.S [c]))] S) _ = _
    show Ret.bind (eOp opIn (eVar 1) ec [some (.str x), some (.str (SX.S [c]))] S) _ = _
    have e : eOp opIn (eVar 1) ec [some (.str x), some (.str (SX.S [c]))] S = .ok (.bl (decide (c ∈ l))) S := by
      show Ret.bind (eVar 1 [some (.str x), some (.str (SX.S [c]))] S) _ = _
      show Ret.bind (ec _ S) _ = _
      rw [hc]
      show Ret.of (opIn (.str (SX.S [c])) (.str (SX.S l)) S) S = _
      rw [in_S]; rfl
    rw [e]; rfl
  have e2 : ((signs x).filterMap (fIn l)) = x.cps.toList.map fun c => D.bl (decide (c ∈ l)) := by
    unfold signs
    rw [List.filterMap_map]
    induction x.cps.toList with
    | nil => rfl
    | cons c t ih => rw [List.filterMap_cons]; show _ :: _ = _; rw [ih]; rfl
  apply on_eq
  simp only [von_nil, von_pass, von_break, von_cont, von_retN, von_expr, von_ret, von_if, von_set, von_asg, von_par2, von_par3, von_for, von_var, von_C, von_aNil, von_aCons, von_tup, von_lst, von_lstM, von_opE, von_tV, von_chain, von_tAn, von_tOr, von_tNo, von_and, von_or, von_not, von_eIf, von_call, von_callD, von_CB, von_isi, von_isis, von_pNo, von_pSo, von_sl, von_fmt, von_joined, von_runJ0, von_runJ1, von_M1, von_append, von_frz, von_iOf, von_iR1, von_iR2, von_lc, von_dct, so_some, so_none, so_bind, so_map, so_ite, on_ok, on_exc, on_bad, on_of, on_ite, on_iteB, on_runB, son_ite, son_nx, son_rt, son_bk, son_ct, son_exc, son_bad, po_nx, po_rt, po_bk, po_ct, po_ex, Po.fn, start0_eq, asB_bl, der_non, der_bl, der_int, der_str, der_tup, der_lst, der_dct, opAdd_int, opAdd_str, opAdd_tup, opAdd_lst, opSub_int, opMul_int, opDiv_int, opMod_int, opLt_int, opLe_int, opGt_int, opGe_int, opEq_int, opNe_int, opIx_tup, opIx_lst, at0, at1, at2, at3, at4, fInt_int, fLen_tup, fLen_lst, fLen_dct, fLen_str, gvName_ap, tYesV_ap, gvSub_var, Option.bind_some, Option.map_some, get0, getS, set0, setS, List.getElem?_cons_zero, List.getElem?_cons_succ, List.set_cons_zero, List.set_cons_succ, List.map_cons, List.map_nil, List.length_cons, List.length_nil, List.replicate_succ, List.replicate_zero, List.cons_append, List.nil_append, List.append_nil, Nat.reduceAdd, Nat.reduceSub, Int.reduceSub, Int.reduceNeg, Int.reduceAdd, Nat.reduceMul, Nat.reduceLeDiff, LN, true_and, and_true, if_true, if_false, Bool.not_true, Bool.not_false, Bool.false_eq_true, reduceIte, decide_true, decide_false, any_str, hl, wipeE, e1, e2, fAll, blsOf_map]
  refine ⟨hl, ?_⟩
  unfold allIn
  rw [List.all_map]; rfl
/-- [sign for sign in text if sign not in letters] == [] -/
theorem none_out {l : List Nat} {ec : Ev} (hc : ∀ e S, ec e S = .ok (.str (SX.S l)) S) (x : Str) (o : Option D) (S : Sto) (hx : x.length ≤ 1000) :
    ∃ ys : List D, (∀ y ∈ ys, ∃ z, y = .str z) ∧ ys.isEmpty = allIn l x ∧ eLc (iOf asAny (eVar 0)) (gvName 1) (tV (eOp opNotIn (eVar 1) ec)) (eVar 1) [1] [some (.str x), o] S = .ok (.lst ys) S := by
  have hl : (signs x).length ≤ LN := by rw [signs_len]; unfold LN; omega
  have e1 : lcRun (gvName 1) (tV (eOp opNotIn (eVar 1) ec)) (eVar 1) [1] [some (.str x), none] (signs x) S = .ok ((signs x).filterMap (fOut l)) S := by
    refine lcRun_map _ fun d hd => ?_
    obtain ⟨c, _, rfl⟩ := List.mem_map.mp hd
    unfold lcTurn
    show Ret.bind (tV (eOp opNotIn (eVar 1) ec) [some (.str x), some (.str (SX.S [c]))] S) _ = _
    have e : tV (eOp opNotIn (eVar 1) ec) [some (.str x), some (.str (SX.S [c]))] S = .ok (!decide (c ∈ l)) S := by
      show Ret.bind (Ret.bind (eVar 1 [some (.str x), some (.str (SX.S [c]))] S) _) _ = _
      show Ret.bind (Ret.bind (ec _ S) _) _ = _
      rw [hc]
      show Ret.bind (Ret.of (opNotIn (.str (SX.S [c])) (.str (SX.S l)) S) S) _ = _
      rw [notIn_S]; rfl
    rw [e]
    show (if (!decide (c ∈ l)) = true then _ else _) = Ret.ok (if c ∈ l then none else some _) S
    by_cases hm : c ∈ l
    · rw [if_pos hm, if_neg (by simp [hm])]
    · rw [if_neg hm, if_pos (by simp [hm])]; rfl
  refine ⟨(signs x).filterMap (fOut l), ?_, ?_, ?_⟩
  · intro y hy
    obtain ⟨d, hd, e⟩ := List.mem_filterMap.mp hy
    obtain ⟨c, _, rfl⟩ := List.mem_map.mp hd
    have e : (if c ∈ l then none else some (D.str (SX.S [c]))) = some y := e
    by_cases hm : c ∈ l
    · rw [if_pos hm] at e; cases e
    · rw [if_neg hm] at e; cases e; exact ⟨_, rfl⟩
  · unfold allIn signs
    rw [List.filterMap_map]
    induction x.cps.toList with
    | nil => rfl
    | cons c t ih =>
      rw [List.filterMap_cons, List.all_cons, ← ih]
      have e : (fOut l ∘ fun c => D.str (SX.S [c])) c = if c ∈ l then none else some (D.str (SX.S [c])) := rfl
      rw [e]
      by_cases hm : c ∈ l
      · rw [if_pos hm]; simp [hm]
      · rw [if_neg hm]; simp [hm]
  · apply on_eq
    simp only [von_nil, von_pass, von_break, von_cont, von_retN, von_expr, von_ret, von_if, von_set, von_asg, von_par2, von_par3, von_for, von_var, von_C, von_aNil, von_aCons, von_tup, von_lst, von_lstM, von_opE, von_tV, von_chain, von_tAn, von_tOr, von_tNo, von_and, von_or, von_not, von_eIf, von_call, von_callD, von_CB, von_isi, von_isis, von_pNo, von_pSo, von_sl, von_fmt, von_joined, von_runJ0, von_runJ1, von_M1, von_append, von_frz, von_iOf, von_iR1, von_iR2, von_lc, von_dct, so_some, so_none, so_bind, so_map, so_ite, on_ok, on_exc, on_bad, on_of, on_ite, on_iteB, on_runB, son_ite, son_nx, son_rt, son_bk, son_ct, son_exc, son_bad, po_nx, po_rt, po_bk, po_ct, po_ex, Po.fn, start0_eq, asB_bl, der_non, der_bl, der_int, der_str, der_tup, der_lst, der_dct, opAdd_int, opAdd_str, opAdd_tup, opAdd_lst, opSub_int, opMul_int, opDiv_int, opMod_int, opLt_int, opLe_int, opGt_int, opGe_int, opEq_int, opNe_int, opIx_tup, opIx_lst, at0, at1, at2, at3, at4, fInt_int, fLen_tup, fLen_lst, fLen_dct, fLen_str, gvName_ap, tYesV_ap, gvSub_var, Option.bind_some, Option.map_some, get0, getS, set0, setS, List.getElem?_cons_zero, List.getElem?_cons_succ, List.set_cons_zero, List.set_cons_succ, List.map_cons, List.map_nil, List.length_cons, List.length_nil, List.replicate_succ, List.replicate_zero, List.cons_append, List.nil_append, List.append_nil, Nat.reduceAdd, Nat.reduceSub, Int.reduceSub, Int.reduceNeg, Int.reduceAdd, Nat.reduceMul, Nat.reduceLeDiff, LN, true_and, and_true, if_true, if_false, Bool.not_true, Bool.not_false, Bool.false_eq_true, reduceIte, decide_true, decide_false, any_str, wipeE, e1]
    exact hl
theorem plain_strs : ∀ {ys : List D}, (∀ y ∈ ys, ∃ z, y = .str z) → PyData.plainAll (pdsOf ys) = true
  | [], _ => rfl
  | y :: ys, h => by
    obtain ⟨z, rfl⟩ := h y (List.mem_cons_self ..)
    show (PyData.plain (.str z) && PyData.plainAll (pdsOf ys)) = true
    rw [plain_strs fun y hy => h y (List.mem_cons_of_mem _ hy)]
    rfl
theorem eq_nil {ys : List D} (h : ∀ y ∈ ys, ∃ z, y = .str z) (S : Sto) : opEq (.lst ys) (.lst []) S = some (.bl ys.isEmpty) := by
  have e0 : eqOk (pdOf (.lst ys)) (pdOf (.lst [])) = true := by
    unfold eqOk
    have e1 : (pdOf (.lst ys)).plain = true := plain_strs h
    rw [e1]
    have e2 : (pdOf (.lst ([] : List D))).plain = true := rfl
    rw [e2]
    have e3 : min (pdOf (.lst ys)).depth (pdOf (.lst ([] : List D))).depth ≤ 100 := Nat.le_trans (Nat.min_le_right _ _) (by decide)
    simp [e3]
  show (if eqOk (pdOf (.lst ys)) (pdOf (.lst [])) = true then some (D.bl (PyData.eqv (pdOf (.lst ys)) (pdOf (.lst [])))) else none) = _
  rw [if_pos e0]
  cases ys <;> rfl
theorem ne_nil {ys : List D} (h : ∀ y ∈ ys, ∃ z, y = .str z) (S : Sto) : opNe (.lst ys) (.lst []) S = some (.bl (!ys.isEmpty)) := by
  have e0 : eqOk (pdOf (.lst ys)) (pdOf (.lst [])) = true := by
    unfold eqOk
    have e1 : (pdOf (.lst ys)).plain = true := plain_strs h
    rw [e1]
    have e2 : (pdOf (.lst ([] : List D))).plain = true := rfl
    rw [e2]
    have e3 : min (pdOf (.lst ys)).depth (pdOf (.lst ([] : List D))).depth ≤ 100 := Nat.le_trans (Nat.min_le_right _ _) (by decide)
    simp [e3]
  show (if eqOk (pdOf (.lst ys)) (pdOf (.lst [])) = true then some (D.bl (!PyData.eqv (pdOf (.lst ys)) (pdOf (.lst [])))) else none) = _
  rw [if_pos e0]
  cases ys <;> rfl
def pName : D → Bool
  | .str x => decide (1 ≤ x.length) && decide (x.length ≤ 6) && allIn abcL x
  | _ => false
theorem name_eq {d : D} (h : Sc d) (S : Sto) : m_is_name [d] S = .ok (.bl (pName d)) S := by
  apply on_eq
  unfold m_is_name fb_is_name
  rw [on_runB]
  refine seq_i fun R hR => ?_
  cases d
  case str x =>
    have hx : x.length ≤ 1000 := h
    have hx2 : x.length ≤ 16777216 := by omega
    have e := all_in (l := abcL) (ec := eC c_LETTERS) (fun e S => rfl) x none S hx
    by_cases h1 : 1 ≤ x.length
    · by_cases h6 : x.length ≤ 6
      · simp only [von_nil, von_pass, von_break, von_cont, von_retN, von_expr, von_ret, von_if, von_set, von_asg, von_par2, von_par3, von_for, von_var, von_C, von_aNil, von_aCons, von_tup, von_lst, von_lstM, von_opE, von_tV, von_chain, von_tAn, von_tOr, von_tNo, von_and, von_or, von_not, von_eIf, von_call, von_callD, von_CB, von_isi, von_isis, von_pNo, von_pSo, von_sl, von_fmt, von_joined, von_runJ0, von_runJ1, von_M1, von_append, von_frz, von_iOf, von_iR1, von_iR2, von_lc, von_dct, so_some, so_none, so_bind, so_map, so_ite, on_ok, on_exc, on_bad, on_of, on_ite, on_iteB, on_runB, son_ite, son_nx, son_rt, son_bk, son_ct, son_exc, son_bad, po_nx, po_rt, po_bk, po_ct, po_ex, Po.fn, start0_eq, asB_bl, der_non, der_bl, der_int, der_str, der_tup, der_lst, der_dct, opAdd_int, opAdd_str, opAdd_tup, opAdd_lst, opSub_int, opMul_int, opDiv_int, opMod_int, opLt_int, opLe_int, opGt_int, opGe_int, opEq_int, opNe_int, opIx_tup, opIx_lst, at0, at1, at2, at3, at4, fInt_int, fLen_tup, fLen_lst, fLen_dct, fLen_str, gvName_ap, tYesV_ap, gvSub_var, Option.bind_some, Option.map_some, get0, getS, set0, setS, List.getElem?_cons_zero, List.getElem?_cons_succ, List.set_cons_zero, List.set_cons_succ, List.map_cons, List.map_nil, List.length_cons, List.length_nil, List.replicate_succ, List.replicate_zero, List.cons_append, List.nil_append, List.append_nil, Nat.reduceAdd, Nat.reduceSub, Int.reduceSub, Int.reduceNeg, Int.reduceAdd, Nat.reduceMul, Nat.reduceLeDiff, LN, true_and, and_true, if_true, if_false, Bool.not_true, Bool.not_false, Bool.false_eq_true, reduceIte, decide_true, decide_false, isK, hx2, e, show (1 : Int) ≤ (x.length : Int) from by omega, show (x.length : Int) ≤ 6 from by omega]
        refine hR _ _ ?_
        simp only [von_nil, von_pass, von_break, von_cont, von_retN, von_expr, von_ret, von_if, von_set, von_asg, von_par2, von_par3, von_for, von_var, von_C, von_aNil, von_aCons, von_tup, von_lst, von_lstM, von_opE, von_tV, von_chain, von_tAn, von_tOr, von_tNo, von_and, von_or, von_not, von_eIf, von_call, von_callD, von_CB, von_isi, von_isis, von_pNo, von_pSo, von_sl, von_fmt, von_joined, von_runJ0, von_runJ1, von_M1, von_append, von_frz, von_iOf, von_iR1, von_iR2, von_lc, von_dct, so_some, so_none, so_bind, so_map, so_ite, on_ok, on_exc, on_bad, on_of, on_ite, on_iteB, on_runB, son_ite, son_nx, son_rt, son_bk, son_ct, son_exc, son_bad, po_nx, po_rt, po_bk, po_ct, po_ex, Po.fn, start0_eq, asB_bl, der_non, der_bl, der_int, der_str, der_tup, der_lst, der_dct, opAdd_int, opAdd_str, opAdd_tup, opAdd_lst, opSub_int, opMul_int, opDiv_int, opMod_int, opLt_int, opLe_int, opGt_int, opGe_int, opEq_int, opNe_int, opIx_tup, opIx_lst, at0, at1, at2, at3, at4, fInt_int, fLen_tup, fLen_lst, fLen_dct, fLen_str, gvName_ap, tYesV_ap, gvSub_var, Option.bind_some, Option.map_some, get0, getS, set0, setS, List.getElem?_cons_zero, List.getElem?_cons_succ, List.set_cons_zero, List.set_cons_succ, List.map_cons, List.map_nil, List.length_cons, List.length_nil, List.replicate_succ, List.replicate_zero, List.cons_append, List.nil_append, List.append_nil, Nat.reduceAdd, Nat.reduceSub, Int.reduceSub, Int.reduceNeg, Int.reduceAdd, Nat.reduceMul, Nat.reduceLeDiff, LN, true_and, and_true, if_true, if_false, Bool.not_true, Bool.not_false, Bool.false_eq_true, reduceIte, decide_true, decide_false, e, pName, h1, h6, Bool.true_and]
      · simp only [von_nil, von_pass, von_break, von_cont, von_retN, von_expr, von_ret, von_if, von_set, von_asg, von_par2, von_par3, von_for, von_var, von_C, von_aNil, von_aCons, von_tup, von_lst, von_lstM, von_opE, von_tV, von_chain, von_tAn, von_tOr, von_tNo, von_and, von_or, von_not, von_eIf, von_call, von_callD, von_CB, von_isi, von_isis, von_pNo, von_pSo, von_sl, von_fmt, von_joined, von_runJ0, von_runJ1, von_M1, von_append, von_frz, von_iOf, von_iR1, von_iR2, von_lc, von_dct, so_some, so_none, so_bind, so_map, so_ite, on_ok, on_exc, on_bad, on_of, on_ite, on_iteB, on_runB, son_ite, son_nx, son_rt, son_bk, son_ct, son_exc, son_bad, po_nx, po_rt, po_bk, po_ct, po_ex, Po.fn, start0_eq, asB_bl, der_non, der_bl, der_int, der_str, der_tup, der_lst, der_dct, opAdd_int, opAdd_str, opAdd_tup, opAdd_lst, opSub_int, opMul_int, opDiv_int, opMod_int, opLt_int, opLe_int, opGt_int, opGe_int, opEq_int, opNe_int, opIx_tup, opIx_lst, at0, at1, at2, at3, at4, fInt_int, fLen_tup, fLen_lst, fLen_dct, fLen_str, gvName_ap, tYesV_ap, gvSub_var, Option.bind_some, Option.map_some, get0, getS, set0, setS, List.getElem?_cons_zero, List.getElem?_cons_succ, List.set_cons_zero, List.set_cons_succ, List.map_cons, List.map_nil, List.length_cons, List.length_nil, List.replicate_succ, List.replicate_zero, List.cons_append, List.nil_append, List.append_nil, Nat.reduceAdd, Nat.reduceSub, Int.reduceSub, Int.reduceNeg, Int.reduceAdd, Nat.reduceMul, Nat.reduceLeDiff, LN, true_and, and_true, if_true, if_false, Bool.not_true, Bool.not_false, Bool.false_eq_true, reduceIte, decide_true, decide_false, isK, hx2, show (1 : Int) ≤ (x.length : Int) from by omega, show ¬ (x.length : Int) ≤ 6 from by omega, pName, h1, h6, Bool.and_false, Bool.false_and]
    · simp only [von_nil, von_pass, von_break, von_cont, von_retN, von_expr, von_ret, von_if, von_set, von_asg, von_par2, von_par3, von_for, von_var, von_C, von_aNil, von_aCons, von_tup, von_lst, von_lstM, von_opE, von_tV, von_chain, von_tAn, von_tOr, von_tNo, von_and, von_or, von_not, von_eIf, von_call, von_callD, von_CB, von_isi, von_isis, von_pNo, von_pSo, von_sl, von_fmt, von_joined, von_runJ0, von_runJ1, von_M1, von_append, von_frz, von_iOf, von_iR1, von_iR2, von_lc, von_dct, so_some, so_none, so_bind, so_map, so_ite, on_ok, on_exc, on_bad, on_of, on_ite, on_iteB, on_runB, son_ite, son_nx, son_rt, son_bk, son_ct, son_exc, son_bad, po_nx, po_rt, po_bk, po_ct, po_ex, Po.fn, start0_eq, asB_bl, der_non, der_bl, der_int, der_str, der_tup, der_lst, der_dct, opAdd_int, opAdd_str, opAdd_tup, opAdd_lst, opSub_int, opMul_int, opDiv_int, opMod_int, opLt_int, opLe_int, opGt_int, opGe_int, opEq_int, opNe_int, opIx_tup, opIx_lst, at0, at1, at2, at3, at4, fInt_int, fLen_tup, fLen_lst, fLen_dct, fLen_str, gvName_ap, tYesV_ap, gvSub_var, Option.bind_some, Option.map_some, get0, getS, set0, setS, List.getElem?_cons_zero, List.getElem?_cons_succ, List.set_cons_zero, List.set_cons_succ, List.map_cons, List.map_nil, List.length_cons, List.length_nil, List.replicate_succ, List.replicate_zero, List.cons_append, List.nil_append, List.append_nil, Nat.reduceAdd, Nat.reduceSub, Int.reduceSub, Int.reduceNeg, Int.reduceAdd, Nat.reduceMul, Nat.reduceLeDiff, LN, true_and, and_true, if_true, if_false, Bool.not_true, Bool.not_false, Bool.false_eq_true, reduceIte, decide_true, decide_false, isK, hx2, show ¬ (1 : Int) ≤ (x.length : Int) from by omega, pName, h1, Bool.and_false, Bool.false_and]
  all_goals first | exact h.elim | (simp only [von_nil, von_pass, von_break, von_cont, von_retN, von_expr, von_ret, von_if, von_set, von_asg, von_par2, von_par3, von_for, von_var, von_C, von_aNil, von_aCons, von_tup, von_lst, von_lstM, von_opE, von_tV, von_chain, von_tAn, von_tOr, von_tNo, von_and, von_or, von_not, von_eIf, von_call, von_callD, von_CB, von_isi, von_isis, von_pNo, von_pSo, von_sl, von_fmt, von_joined, von_runJ0, von_runJ1, von_M1, von_append, von_frz, von_iOf, von_iR1, von_iR2, von_lc, von_dct, so_some, so_none, so_bind, so_map, so_ite, on_ok, on_exc, on_bad, on_of, on_ite, on_iteB, on_runB, son_ite, son_nx, son_rt, son_bk, son_ct, son_exc, son_bad, po_nx, po_rt, po_bk, po_ct, po_ex, Po.fn, start0_eq, asB_bl, der_non, der_bl, der_int, der_str, der_tup, der_lst, der_dct, opAdd_int, opAdd_str, opAdd_tup, opAdd_lst, opSub_int, opMul_int, opDiv_int, opMod_int, opLt_int, opLe_int, opGt_int, opGe_int, opEq_int, opNe_int, opIx_tup, opIx_lst, at0, at1, at2, at3, at4, fInt_int, fLen_tup, fLen_lst, fLen_dct, fLen_str, gvName_ap, tYesV_ap, gvSub_var, Option.bind_some, Option.map_some, get0, getS, set0, setS, List.getElem?_cons_zero, List.getElem?_cons_succ, List.set_cons_zero, List.set_cons_succ, List.map_cons, List.map_nil, List.length_cons, List.length_nil, List.replicate_succ, List.replicate_zero, List.cons_append, List.nil_append, List.append_nil, Nat.reduceAdd, Nat.reduceSub, Int.reduceSub, Int.reduceNeg, Int.reduceAdd, Nat.reduceMul, Nat.reduceLeDiff, LN, true_and, and_true, if_true, if_false, Bool.not_true, Bool.not_false, Bool.false_eq_true, reduceIte, decide_true, decide_false, isK, pName, der_frz])
/-! ### numbers, standings, places -/
def pWhole : D → Bool
  | .int _ => true
  | _ => false
def pNum (lo hi : Int) : D → Bool
  | .int i => decide (lo ≤ i) && decide (i ≤ hi)
  | _ => false
theorem whole_eq {d : D} (h : Sc d) (S : Sto) : m_is_whole [d] S = .ok (.bl (pWhole d)) S := by
  apply on_eq
  unfold m_is_whole fb_is_whole
  cases d <;> first | exact h.elim | (simp only [von_nil, von_pass, von_break, von_cont, von_retN, von_expr, von_ret, von_if, von_set, von_asg, von_par2, von_par3, von_for, von_var, von_C, von_aNil, von_aCons, von_tup, von_lst, von_lstM, von_opE, von_tV, von_chain, von_tAn, von_tOr, von_tNo, von_and, von_or, von_not, von_eIf, von_call, von_callD, von_CB, von_isi, von_isis, von_pNo, von_pSo, von_sl, von_fmt, von_joined, von_runJ0, von_runJ1, von_M1, von_append, von_frz, von_iOf, von_iR1, von_iR2, von_lc, von_dct, so_some, so_none, so_bind, so_map, so_ite, on_ok, on_exc, on_bad, on_of, on_ite, on_iteB, on_runB, son_ite, son_nx, son_rt, son_bk, son_ct, son_exc, son_bad, po_nx, po_rt, po_bk, po_ct, po_ex, Po.fn, start0_eq, asB_bl, der_non, der_bl, der_int, der_str, der_tup, der_lst, der_dct, opAdd_int, opAdd_str, opAdd_tup, opAdd_lst, opSub_int, opMul_int, opDiv_int, opMod_int, opLt_int, opLe_int, opGt_int, opGe_int, opEq_int, opNe_int, opIx_tup, opIx_lst, at0, at1, at2, at3, at4, fInt_int, fLen_tup, fLen_lst, fLen_dct, fLen_str, gvName_ap, tYesV_ap, gvSub_var, Option.bind_some, Option.map_some, get0, getS, set0, setS, List.getElem?_cons_zero, List.getElem?_cons_succ, List.set_cons_zero, List.set_cons_succ, List.map_cons, List.map_nil, List.length_cons, List.length_nil, List.replicate_succ, List.replicate_zero, List.cons_append, List.nil_append, List.append_nil, Nat.reduceAdd, Nat.reduceSub, Int.reduceSub, Int.reduceNeg, Int.reduceAdd, Nat.reduceMul, Nat.reduceLeDiff, LN, true_and, and_true, if_true, if_false, Bool.not_true, Bool.not_false, Bool.false_eq_true, reduceIte, decide_true, decide_false, isK, pWhole, der_frz])
theorem num_eq {d : D} (h : Sc d) (lo hi : Int) (S : Sto) : m_is_number [d, .int lo, .int hi] S = .ok (.bl (pNum lo hi d)) S := by
  apply on_eq
  unfold m_is_number fb_is_number
  cases d
  case int i =>
    by_cases h1 : lo ≤ i
    · simp only [von_nil, von_pass, von_break, von_cont, von_retN, von_expr, von_ret, von_if, von_set, von_asg, von_par2, von_par3, von_for, von_var, von_C, von_aNil, von_aCons, von_tup, von_lst, von_lstM, von_opE, von_tV, von_chain, von_tAn, von_tOr, von_tNo, von_and, von_or, von_not, von_eIf, von_call, von_callD, von_CB, von_isi, von_isis, von_pNo, von_pSo, von_sl, von_fmt, von_joined, von_runJ0, von_runJ1, von_M1, von_append, von_frz, von_iOf, von_iR1, von_iR2, von_lc, von_dct, so_some, so_none, so_bind, so_map, so_ite, on_ok, on_exc, on_bad, on_of, on_ite, on_iteB, on_runB, son_ite, son_nx, son_rt, son_bk, son_ct, son_exc, son_bad, po_nx, po_rt, po_bk, po_ct, po_ex, Po.fn, start0_eq, asB_bl, der_non, der_bl, der_int, der_str, der_tup, der_lst, der_dct, opAdd_int, opAdd_str, opAdd_tup, opAdd_lst, opSub_int, opMul_int, opDiv_int, opMod_int, opLt_int, opLe_int, opGt_int, opGe_int, opEq_int, opNe_int, opIx_tup, opIx_lst, at0, at1, at2, at3, at4, fInt_int, fLen_tup, fLen_lst, fLen_dct, fLen_str, gvName_ap, tYesV_ap, gvSub_var, Option.bind_some, Option.map_some, get0, getS, set0, setS, List.getElem?_cons_zero, List.getElem?_cons_succ, List.set_cons_zero, List.set_cons_succ, List.map_cons, List.map_nil, List.length_cons, List.length_nil, List.replicate_succ, List.replicate_zero, List.cons_append, List.nil_append, List.append_nil, Nat.reduceAdd, Nat.reduceSub, Int.reduceSub, Int.reduceNeg, Int.reduceAdd, Nat.reduceMul, Nat.reduceLeDiff, LN, true_and, and_true, if_true, if_false, Bool.not_true, Bool.not_false, Bool.false_eq_true, reduceIte, decide_true, decide_false, whole_eq h, pWhole, pNum, h1, Bool.true_and]
    · simp only [von_nil, von_pass, von_break, von_cont, von_retN, von_expr, von_ret, von_if, von_set, von_asg, von_par2, von_par3, von_for, von_var, von_C, von_aNil, von_aCons, von_tup, von_lst, von_lstM, von_opE, von_tV, von_chain, von_tAn, von_tOr, von_tNo, von_and, von_or, von_not, von_eIf, von_call, von_callD, von_CB, von_isi, von_isis, von_pNo, von_pSo, von_sl, von_fmt, von_joined, von_runJ0, von_runJ1, von_M1, von_append, von_frz, von_iOf, von_iR1, von_iR2, von_lc, von_dct, so_some, so_none, so_bind, so_map, so_ite, on_ok, on_exc, on_bad, on_of, on_ite, on_iteB, on_runB, son_ite, son_nx, son_rt, son_bk, son_ct, son_exc, son_bad, po_nx, po_rt, po_bk, po_ct, po_ex, Po.fn, start0_eq, asB_bl, der_non, der_bl, der_int, der_str, der_tup, der_lst, der_dct, opAdd_int, opAdd_str, opAdd_tup, opAdd_lst, opSub_int, opMul_int, opDiv_int, opMod_int, opLt_int, opLe_int, opGt_int, opGe_int, opEq_int, opNe_int, opIx_tup, opIx_lst, at0, at1, at2, at3, at4, fInt_int, fLen_tup, fLen_lst, fLen_dct, fLen_str, gvName_ap, tYesV_ap, gvSub_var, Option.bind_some, Option.map_some, get0, getS, set0, setS, List.getElem?_cons_zero, List.getElem?_cons_succ, List.set_cons_zero, List.set_cons_succ, List.map_cons, List.map_nil, List.length_cons, List.length_nil, List.replicate_succ, List.replicate_zero, List.cons_append, List.nil_append, List.append_nil, Nat.reduceAdd, Nat.reduceSub, Int.reduceSub, Int.reduceNeg, Int.reduceAdd, Nat.reduceMul, Nat.reduceLeDiff, LN, true_and, and_true, if_true, if_false, Bool.not_true, Bool.not_false, Bool.false_eq_true, reduceIte, decide_true, decide_false, whole_eq h, pWhole, pNum, h1, Bool.false_and]
  all_goals first | exact h.elim | (simp only [von_nil, von_pass, von_break, von_cont, von_retN, von_expr, von_ret, von_if, von_set, von_asg, von_par2, von_par3, von_for, von_var, von_C, von_aNil, von_aCons, von_tup, von_lst, von_lstM, von_opE, von_tV, von_chain, von_tAn, von_tOr, von_tNo, von_and, von_or, von_not, von_eIf, von_call, von_callD, von_CB, von_isi, von_isis, von_pNo, von_pSo, von_sl, von_fmt, von_joined, von_runJ0, von_runJ1, von_M1, von_append, von_frz, von_iOf, von_iR1, von_iR2, von_lc, von_dct, so_some, so_none, so_bind, so_map, so_ite, on_ok, on_exc, on_bad, on_of, on_ite, on_iteB, on_runB, son_ite, son_nx, son_rt, son_bk, son_ct, son_exc, son_bad, po_nx, po_rt, po_bk, po_ct, po_ex, Po.fn, start0_eq, asB_bl, der_non, der_bl, der_int, der_str, der_tup, der_lst, der_dct, opAdd_int, opAdd_str, opAdd_tup, opAdd_lst, opSub_int, opMul_int, opDiv_int, opMod_int, opLt_int, opLe_int, opGt_int, opGe_int, opEq_int, opNe_int, opIx_tup, opIx_lst, at0, at1, at2, at3, at4, fInt_int, fLen_tup, fLen_lst, fLen_dct, fLen_str, gvName_ap, tYesV_ap, gvSub_var, Option.bind_some, Option.map_some, get0, getS, set0, setS, List.getElem?_cons_zero, List.getElem?_cons_succ, List.set_cons_zero, List.set_cons_succ, List.map_cons, List.map_nil, List.length_cons, List.length_nil, List.replicate_succ, List.replicate_zero, List.cons_append, List.nil_append, List.append_nil, Nat.reduceAdd, Nat.reduceSub, Int.reduceSub, Int.reduceNeg, Int.reduceAdd, Nat.reduceMul, Nat.reduceLeDiff, LN, true_and, and_true, if_true, if_false, Bool.not_true, Bool.not_false, Bool.false_eq_true, reduceIte, decide_true, decide_false, whole_eq h, pWhole, pNum])
def pStd : D → Bool
  | .tup [a, b] => pName a && pNum 0 8 b
  | _ => false
theorem std_eq {d : D} (h : Val d) (S : Sto) : m_is_standing [d] S = .ok (.bl (pStd d)) S := by
  apply on_eq
  unfold m_is_standing fb_is_standing
  rw [on_runB]
  refine seq_i fun R hR => ?_
  cases d
  case tup xs =>
    obtain ⟨hl, hx⟩ := h.2 xs rfl
    rcases xs with _ | ⟨a, _ | ⟨b, _ | ⟨c, r⟩⟩⟩
    · simp only [von_nil, von_pass, von_break, von_cont, von_retN, von_expr, von_ret, von_if, von_set, von_asg, von_par2, von_par3, von_for, von_var, von_C, von_aNil, von_aCons, von_tup, von_lst, von_lstM, von_opE, von_tV, von_chain, von_tAn, von_tOr, von_tNo, von_and, von_or, von_not, von_eIf, von_call, von_callD, von_CB, von_isi, von_isis, von_pNo, von_pSo, von_sl, von_fmt, von_joined, von_runJ0, von_runJ1, von_M1, von_append, von_frz, von_iOf, von_iR1, von_iR2, von_lc, von_dct, so_some, so_none, so_bind, so_map, so_ite, on_ok, on_exc, on_bad, on_of, on_ite, on_iteB, on_runB, son_ite, son_nx, son_rt, son_bk, son_ct, son_exc, son_bad, po_nx, po_rt, po_bk, po_ct, po_ex, Po.fn, start0_eq, asB_bl, der_non, der_bl, der_int, der_str, der_tup, der_lst, der_dct, opAdd_int, opAdd_str, opAdd_tup, opAdd_lst, opSub_int, opMul_int, opDiv_int, opMod_int, opLt_int, opLe_int, opGt_int, opGe_int, opEq_int, opNe_int, opIx_tup, opIx_lst, at0, at1, at2, at3, at4, fInt_int, fLen_tup, fLen_lst, fLen_dct, fLen_str, gvName_ap, tYesV_ap, gvSub_var, Option.bind_some, Option.map_some, get0, getS, set0, setS, List.getElem?_cons_zero, List.getElem?_cons_succ, List.set_cons_zero, List.set_cons_succ, List.map_cons, List.map_nil, List.length_cons, List.length_nil, List.replicate_succ, List.replicate_zero, List.cons_append, List.nil_append, List.append_nil, Nat.reduceAdd, Nat.reduceSub, Int.reduceSub, Int.reduceNeg, Int.reduceAdd, Nat.reduceMul, Nat.reduceLeDiff, LN, true_and, and_true, if_true, if_false, Bool.not_true, Bool.not_false, Bool.false_eq_true, reduceIte, decide_true, decide_false, isK, opNe_int, pStd]
      simp
    · simp only [von_nil, von_pass, von_break, von_cont, von_retN, von_expr, von_ret, von_if, von_set, von_asg, von_par2, von_par3, von_for, von_var, von_C, von_aNil, von_aCons, von_tup, von_lst, von_lstM, von_opE, von_tV, von_chain, von_tAn, von_tOr, von_tNo, von_and, von_or, von_not, von_eIf, von_call, von_callD, von_CB, von_isi, von_isis, von_pNo, von_pSo, von_sl, von_fmt, von_joined, von_runJ0, von_runJ1, von_M1, von_append, von_frz, von_iOf, von_iR1, von_iR2, von_lc, von_dct, so_some, so_none, so_bind, so_map, so_ite, on_ok, on_exc, on_bad, on_of, on_ite, on_iteB, on_runB, son_ite, son_nx, son_rt, son_bk, son_ct, son_exc, son_bad, po_nx, po_rt, po_bk, po_ct, po_ex, Po.fn, start0_eq, asB_bl, der_non, der_bl, der_int, der_str, der_tup, der_lst, der_dct, opAdd_int, opAdd_str, opAdd_tup, opAdd_lst, opSub_int, opMul_int, opDiv_int, opMod_int, opLt_int, opLe_int, opGt_int, opGe_int, opEq_int, opNe_int, opIx_tup, opIx_lst, at0, at1, at2, at3, at4, fInt_int, fLen_tup, fLen_lst, fLen_dct, fLen_str, gvName_ap, tYesV_ap, gvSub_var, Option.bind_some, Option.map_some, get0, getS, set0, setS, List.getElem?_cons_zero, List.getElem?_cons_succ, List.set_cons_zero, List.set_cons_succ, List.map_cons, List.map_nil, List.length_cons, List.length_nil, List.replicate_succ, List.replicate_zero, List.cons_append, List.nil_append, List.append_nil, Nat.reduceAdd, Nat.reduceSub, Int.reduceSub, Int.reduceNeg, Int.reduceAdd, Nat.reduceMul, Nat.reduceLeDiff, LN, true_and, and_true, if_true, if_false, Bool.not_true, Bool.not_false, Bool.false_eq_true, reduceIte, decide_true, decide_false, isK, opNe_int, pStd]
      simp
    · simp only [von_nil, von_pass, von_break, von_cont, von_retN, von_expr, von_ret, von_if, von_set, von_asg, von_par2, von_par3, von_for, von_var, von_C, von_aNil, von_aCons, von_tup, von_lst, von_lstM, von_opE, von_tV, von_chain, von_tAn, von_tOr, von_tNo, von_and, von_or, von_not, von_eIf, von_call, von_callD, von_CB, von_isi, von_isis, von_pNo, von_pSo, von_sl, von_fmt, von_joined, von_runJ0, von_runJ1, von_M1, von_append, von_frz, von_iOf, von_iR1, von_iR2, von_lc, von_dct, so_some, so_none, so_bind, so_map, so_ite, on_ok, on_exc, on_bad, on_of, on_ite, on_iteB, on_runB, son_ite, son_nx, son_rt, son_bk, son_ct, son_exc, son_bad, po_nx, po_rt, po_bk, po_ct, po_ex, Po.fn, start0_eq, asB_bl, der_non, der_bl, der_int, der_str, der_tup, der_lst, der_dct, opAdd_int, opAdd_str, opAdd_tup, opAdd_lst, opSub_int, opMul_int, opDiv_int, opMod_int, opLt_int, opLe_int, opGt_int, opGe_int, opEq_int, opNe_int, opIx_tup, opIx_lst, at0, at1, at2, at3, at4, fInt_int, fLen_tup, fLen_lst, fLen_dct, fLen_str, gvName_ap, tYesV_ap, gvSub_var, Option.bind_some, Option.map_some, get0, getS, set0, setS, List.getElem?_cons_zero, List.getElem?_cons_succ, List.set_cons_zero, List.set_cons_succ, List.map_cons, List.map_nil, List.length_cons, List.length_nil, List.replicate_succ, List.replicate_zero, List.cons_append, List.nil_append, List.append_nil, Nat.reduceAdd, Nat.reduceSub, Int.reduceSub, Int.reduceNeg, Int.reduceAdd, Nat.reduceMul, Nat.reduceLeDiff, LN, true_and, and_true, if_true, if_false, Bool.not_true, Bool.not_false, Bool.false_eq_true, reduceIte, decide_true, decide_false, isK, opNe_int]
      refine hR _ _ ?_
      have ha : Sc a := hx a (by simp)
      have hb : Sc b := hx b (by simp)
      simp only [von_nil, von_pass, von_break, von_cont, von_retN, von_expr, von_ret, von_if, von_set, von_asg, von_par2, von_par3, von_for, von_var, von_C, von_aNil, von_aCons, von_tup, von_lst, von_lstM, von_opE, von_tV, von_chain, von_tAn, von_tOr, von_tNo, von_and, von_or, von_not, von_eIf, von_call, von_callD, von_CB, von_isi, von_isis, von_pNo, von_pSo, von_sl, von_fmt, von_joined, von_runJ0, von_runJ1, von_M1, von_append, von_frz, von_iOf, von_iR1, von_iR2, von_lc, von_dct, so_some, so_none, so_bind, so_map, so_ite, on_ok, on_exc, on_bad, on_of, on_ite, on_iteB, on_runB, son_ite, son_nx, son_rt, son_bk, son_ct, son_exc, son_bad, po_nx, po_rt, po_bk, po_ct, po_ex, Po.fn, start0_eq, asB_bl, der_non, der_bl, der_int, der_str, der_tup, der_lst, der_dct, opAdd_int, opAdd_str, opAdd_tup, opAdd_lst, opSub_int, opMul_int, opDiv_int, opMod_int, opLt_int, opLe_int, opGt_int, opGe_int, opEq_int, opNe_int, opIx_tup, opIx_lst, at0, at1, at2, at3, at4, fInt_int, fLen_tup, fLen_lst, fLen_dct, fLen_str, gvName_ap, tYesV_ap, gvSub_var, Option.bind_some, Option.map_some, get0, getS, set0, setS, List.getElem?_cons_zero, List.getElem?_cons_succ, List.set_cons_zero, List.set_cons_succ, List.map_cons, List.map_nil, List.length_cons, List.length_nil, List.replicate_succ, List.replicate_zero, List.cons_append, List.nil_append, List.append_nil, Nat.reduceAdd, Nat.reduceSub, Int.reduceSub, Int.reduceNeg, Int.reduceAdd, Nat.reduceMul, Nat.reduceLeDiff, LN, true_and, and_true, if_true, if_false, Bool.not_true, Bool.not_false, Bool.false_eq_true, reduceIte, decide_true, decide_false, name_eq ha, num_eq hb, c_LAST_HOUR, pStd]
      cases pName a <;> simp
    · have hne : ¬ (((r.length + 1 + 1 + 1 : Nat) : Int) = 2) := by omega
      simp only [von_nil, von_pass, von_break, von_cont, von_retN, von_expr, von_ret, von_if, von_set, von_asg, von_par2, von_par3, von_for, von_var, von_C, von_aNil, von_aCons, von_tup, von_lst, von_lstM, von_opE, von_tV, von_chain, von_tAn, von_tOr, von_tNo, von_and, von_or, von_not, von_eIf, von_call, von_callD, von_CB, von_isi, von_isis, von_pNo, von_pSo, von_sl, von_fmt, von_joined, von_runJ0, von_runJ1, von_M1, von_append, von_frz, von_iOf, von_iR1, von_iR2, von_lc, von_dct, so_some, so_none, so_bind, so_map, so_ite, on_ok, on_exc, on_bad, on_of, on_ite, on_iteB, on_runB, son_ite, son_nx, son_rt, son_bk, son_ct, son_exc, son_bad, po_nx, po_rt, po_bk, po_ct, po_ex, Po.fn, start0_eq, asB_bl, der_non, der_bl, der_int, der_str, der_tup, der_lst, der_dct, opAdd_int, opAdd_str, opAdd_tup, opAdd_lst, opSub_int, opMul_int, opDiv_int, opMod_int, opLt_int, opLe_int, opGt_int, opGe_int, opEq_int, opNe_int, opIx_tup, opIx_lst, at0, at1, at2, at3, at4, fInt_int, fLen_tup, fLen_lst, fLen_dct, fLen_str, gvName_ap, tYesV_ap, gvSub_var, Option.bind_some, Option.map_some, get0, getS, set0, setS, List.getElem?_cons_zero, List.getElem?_cons_succ, List.set_cons_zero, List.set_cons_succ, List.map_cons, List.map_nil, List.length_cons, List.length_nil, List.replicate_succ, List.replicate_zero, List.cons_append, List.nil_append, List.append_nil, Nat.reduceAdd, Nat.reduceSub, Int.reduceSub, Int.reduceNeg, Int.reduceAdd, Nat.reduceMul, Nat.reduceLeDiff, LN, true_and, and_true, if_true, if_false, Bool.not_true, Bool.not_false, Bool.false_eq_true, reduceIte, decide_true, decide_false, isK, opNe_int, pStd, hne]
  all_goals first | exact h.1.elim | (simp only [von_nil, von_pass, von_break, von_cont, von_retN, von_expr, von_ret, von_if, von_set, von_asg, von_par2, von_par3, von_for, von_var, von_C, von_aNil, von_aCons, von_tup, von_lst, von_lstM, von_opE, von_tV, von_chain, von_tAn, von_tOr, von_tNo, von_and, von_or, von_not, von_eIf, von_call, von_callD, von_CB, von_isi, von_isis, von_pNo, von_pSo, von_sl, von_fmt, von_joined, von_runJ0, von_runJ1, von_M1, von_append, von_frz, von_iOf, von_iR1, von_iR2, von_lc, von_dct, so_some, so_none, so_bind, so_map, so_ite, on_ok, on_exc, on_bad, on_of, on_ite, on_iteB, on_runB, son_ite, son_nx, son_rt, son_bk, son_ct, son_exc, son_bad, po_nx, po_rt, po_bk, po_ct, po_ex, Po.fn, start0_eq, asB_bl, der_non, der_bl, der_int, der_str, der_tup, der_lst, der_dct, opAdd_int, opAdd_str, opAdd_tup, opAdd_lst, opSub_int, opMul_int, opDiv_int, opMod_int, opLt_int, opLe_int, opGt_int, opGe_int, opEq_int, opNe_int, opIx_tup, opIx_lst, at0, at1, at2, at3, at4, fInt_int, fLen_tup, fLen_lst, fLen_dct, fLen_str, gvName_ap, tYesV_ap, gvSub_var, Option.bind_some, Option.map_some, get0, getS, set0, setS, List.getElem?_cons_zero, List.getElem?_cons_succ, List.set_cons_zero, List.set_cons_succ, List.map_cons, List.map_nil, List.length_cons, List.length_nil, List.replicate_succ, List.replicate_zero, List.cons_append, List.nil_append, List.append_nil, Nat.reduceAdd, Nat.reduceSub, Int.reduceSub, Int.reduceNeg, Int.reduceAdd, Nat.reduceMul, Nat.reduceLeDiff, LN, true_and, and_true, if_true, if_false, Bool.not_true, Bool.not_false, Bool.false_eq_true, reduceIte, decide_true, decide_false, isK, pStd, der_frz])
theorem count_eq {d : D} (h : Sc d) (lo hi : Int) (S : Sto) : m_law_is_count [d, .int lo, .int hi] S = .ok (.bl (pNum lo hi d)) S := by
  apply on_eq
  unfold m_law_is_count fb_law_is_count
  cases d
  case int i =>
    by_cases h1 : lo ≤ i
    · simp only [von_nil, von_pass, von_break, von_cont, von_retN, von_expr, von_ret, von_if, von_set, von_asg, von_par2, von_par3, von_for, von_var, von_C, von_aNil, von_aCons, von_tup, von_lst, von_lstM, von_opE, von_tV, von_chain, von_tAn, von_tOr, von_tNo, von_and, von_or, von_not, von_eIf, von_call, von_callD, von_CB, von_isi, von_isis, von_pNo, von_pSo, von_sl, von_fmt, von_joined, von_runJ0, von_runJ1, von_M1, von_append, von_frz, von_iOf, von_iR1, von_iR2, von_lc, von_dct, so_some, so_none, so_bind, so_map, so_ite, on_ok, on_exc, on_bad, on_of, on_ite, on_iteB, on_runB, son_ite, son_nx, son_rt, son_bk, son_ct, son_exc, son_bad, po_nx, po_rt, po_bk, po_ct, po_ex, Po.fn, start0_eq, asB_bl, der_non, der_bl, der_int, der_str, der_tup, der_lst, der_dct, opAdd_int, opAdd_str, opAdd_tup, opAdd_lst, opSub_int, opMul_int, opDiv_int, opMod_int, opLt_int, opLe_int, opGt_int, opGe_int, opEq_int, opNe_int, opIx_tup, opIx_lst, at0, at1, at2, at3, at4, fInt_int, fLen_tup, fLen_lst, fLen_dct, fLen_str, gvName_ap, tYesV_ap, gvSub_var, Option.bind_some, Option.map_some, get0, getS, set0, setS, List.getElem?_cons_zero, List.getElem?_cons_succ, List.set_cons_zero, List.set_cons_succ, List.map_cons, List.map_nil, List.length_cons, List.length_nil, List.replicate_succ, List.replicate_zero, List.cons_append, List.nil_append, List.append_nil, Nat.reduceAdd, Nat.reduceSub, Int.reduceSub, Int.reduceNeg, Int.reduceAdd, Nat.reduceMul, Nat.reduceLeDiff, LN, true_and, and_true, if_true, if_false, Bool.not_true, Bool.not_false, Bool.false_eq_true, reduceIte, decide_true, decide_false, isK, pNum, h1, Bool.true_and]
    · simp only [von_nil, von_pass, von_break, von_cont, von_retN, von_expr, von_ret, von_if, von_set, von_asg, von_par2, von_par3, von_for, von_var, von_C, von_aNil, von_aCons, von_tup, von_lst, von_lstM, von_opE, von_tV, von_chain, von_tAn, von_tOr, von_tNo, von_and, von_or, von_not, von_eIf, von_call, von_callD, von_CB, von_isi, von_isis, von_pNo, von_pSo, von_sl, von_fmt, von_joined, von_runJ0, von_runJ1, von_M1, von_append, von_frz, von_iOf, von_iR1, von_iR2, von_lc, von_dct, so_some, so_none, so_bind, so_map, so_ite, on_ok, on_exc, on_bad, on_of, on_ite, on_iteB, on_runB, son_ite, son_nx, son_rt, son_bk, son_ct, son_exc, son_bad, po_nx, po_rt, po_bk, po_ct, po_ex, Po.fn, start0_eq, asB_bl, der_non, der_bl, der_int, der_str, der_tup, der_lst, der_dct, opAdd_int, opAdd_str, opAdd_tup, opAdd_lst, opSub_int, opMul_int, opDiv_int, opMod_int, opLt_int, opLe_int, opGt_int, opGe_int, opEq_int, opNe_int, opIx_tup, opIx_lst, at0, at1, at2, at3, at4, fInt_int, fLen_tup, fLen_lst, fLen_dct, fLen_str, gvName_ap, tYesV_ap, gvSub_var, Option.bind_some, Option.map_some, get0, getS, set0, setS, List.getElem?_cons_zero, List.getElem?_cons_succ, List.set_cons_zero, List.set_cons_succ, List.map_cons, List.map_nil, List.length_cons, List.length_nil, List.replicate_succ, List.replicate_zero, List.cons_append, List.nil_append, List.append_nil, Nat.reduceAdd, Nat.reduceSub, Int.reduceSub, Int.reduceNeg, Int.reduceAdd, Nat.reduceMul, Nat.reduceLeDiff, LN, true_and, and_true, if_true, if_false, Bool.not_true, Bool.not_false, Bool.false_eq_true, reduceIte, decide_true, decide_false, isK, pNum, h1, Bool.false_and]
  all_goals first | exact h.elim | (simp only [von_nil, von_pass, von_break, von_cont, von_retN, von_expr, von_ret, von_if, von_set, von_asg, von_par2, von_par3, von_for, von_var, von_C, von_aNil, von_aCons, von_tup, von_lst, von_lstM, von_opE, von_tV, von_chain, von_tAn, von_tOr, von_tNo, von_and, von_or, von_not, von_eIf, von_call, von_callD, von_CB, von_isi, von_isis, von_pNo, von_pSo, von_sl, von_fmt, von_joined, von_runJ0, von_runJ1, von_M1, von_append, von_frz, von_iOf, von_iR1, von_iR2, von_lc, von_dct, so_some, so_none, so_bind, so_map, so_ite, on_ok, on_exc, on_bad, on_of, on_ite, on_iteB, on_runB, son_ite, son_nx, son_rt, son_bk, son_ct, son_exc, son_bad, po_nx, po_rt, po_bk, po_ct, po_ex, Po.fn, start0_eq, asB_bl, der_non, der_bl, der_int, der_str, der_tup, der_lst, der_dct, opAdd_int, opAdd_str, opAdd_tup, opAdd_lst, opSub_int, opMul_int, opDiv_int, opMod_int, opLt_int, opLe_int, opGt_int, opGe_int, opEq_int, opNe_int, opIx_tup, opIx_lst, at0, at1, at2, at3, at4, fInt_int, fLen_tup, fLen_lst, fLen_dct, fLen_str, gvName_ap, tYesV_ap, gvSub_var, Option.bind_some, Option.map_some, get0, getS, set0, setS, List.getElem?_cons_zero, List.getElem?_cons_succ, List.set_cons_zero, List.set_cons_succ, List.map_cons, List.map_nil, List.length_cons, List.length_nil, List.replicate_succ, List.replicate_zero, List.cons_append, List.nil_append, List.append_nil, Nat.reduceAdd, Nat.reduceSub, Int.reduceSub, Int.reduceNeg, Int.reduceAdd, Nat.reduceMul, Nat.reduceLeDiff, LN, true_and, and_true, if_true, if_false, Bool.not_true, Bool.not_false, Bool.false_eq_true, reduceIte, decide_true, decide_false, isK, pNum, der_frz])
theorem call_eq {d : D} (h : Sc d) (S : Sto) : m_law_is_call [d] S = .ok (.bl (pName d)) S := by
  apply on_eq
  unfold m_law_is_call fb_law_is_call
  rw [on_runB]
  refine seq_i fun R hR => ?_
  cases d
  case str x =>
    have hx : x.length ≤ 1000 := h
    have hx2 : x.length ≤ 16777216 := by omega
    obtain ⟨ys, hys, he, e⟩ := none_out (l := abcL) (ec := eC (.str "abcdefghijklmnopqrstuvwxyz")) (fun e S => rfl) x none S hx
    have eqn := eq_nil hys
    have hc : pNum 1 6 (.int x.length) = (decide (1 ≤ x.length) && decide (x.length ≤ 6)) := by
      show (decide ((1 : Int) ≤ (x.length : Int)) && decide ((x.length : Int) ≤ 6)) = _
      congr 1 <;> (rw [decide_eq_decide]; omega)
    by_cases h1 : 1 ≤ x.length
    · by_cases h6 : x.length ≤ 6
      · simp only [von_nil, von_pass, von_break, von_cont, von_retN, von_expr, von_ret, von_if, von_set, von_asg, von_par2, von_par3, von_for, von_var, von_C, von_aNil, von_aCons, von_tup, von_lst, von_lstM, von_opE, von_tV, von_chain, von_tAn, von_tOr, von_tNo, von_and, von_or, von_not, von_eIf, von_call, von_callD, von_CB, von_isi, von_isis, von_pNo, von_pSo, von_sl, von_fmt, von_joined, von_runJ0, von_runJ1, von_M1, von_append, von_frz, von_iOf, von_iR1, von_iR2, von_lc, von_dct, so_some, so_none, so_bind, so_map, so_ite, on_ok, on_exc, on_bad, on_of, on_ite, on_iteB, on_runB, son_ite, son_nx, son_rt, son_bk, son_ct, son_exc, son_bad, po_nx, po_rt, po_bk, po_ct, po_ex, Po.fn, start0_eq, asB_bl, der_non, der_bl, der_int, der_str, der_tup, der_lst, der_dct, opAdd_int, opAdd_str, opAdd_tup, opAdd_lst, opSub_int, opMul_int, opDiv_int, opMod_int, opLt_int, opLe_int, opGt_int, opGe_int, opEq_int, opNe_int, opIx_tup, opIx_lst, at0, at1, at2, at3, at4, fInt_int, fLen_tup, fLen_lst, fLen_dct, fLen_str, gvName_ap, tYesV_ap, gvSub_var, Option.bind_some, Option.map_some, get0, getS, set0, setS, List.getElem?_cons_zero, List.getElem?_cons_succ, List.set_cons_zero, List.set_cons_succ, List.map_cons, List.map_nil, List.length_cons, List.length_nil, List.replicate_succ, List.replicate_zero, List.cons_append, List.nil_append, List.append_nil, Nat.reduceAdd, Nat.reduceSub, Int.reduceSub, Int.reduceNeg, Int.reduceAdd, Nat.reduceMul, Nat.reduceLeDiff, LN, true_and, and_true, if_true, if_false, Bool.not_true, Bool.not_false, Bool.false_eq_true, reduceIte, decide_true, decide_false, isK, hx2, count_eq (d := .int x.length) trivial, hc, h1, h6, Bool.true_and]
        refine hR _ _ ?_
        simp only [von_nil, von_pass, von_break, von_cont, von_retN, von_expr, von_ret, von_if, von_set, von_asg, von_par2, von_par3, von_for, von_var, von_C, von_aNil, von_aCons, von_tup, von_lst, von_lstM, von_opE, von_tV, von_chain, von_tAn, von_tOr, von_tNo, von_and, von_or, von_not, von_eIf, von_call, von_callD, von_CB, von_isi, von_isis, von_pNo, von_pSo, von_sl, von_fmt, von_joined, von_runJ0, von_runJ1, von_M1, von_append, von_frz, von_iOf, von_iR1, von_iR2, von_lc, von_dct, so_some, so_none, so_bind, so_map, so_ite, on_ok, on_exc, on_bad, on_of, on_ite, on_iteB, on_runB, son_ite, son_nx, son_rt, son_bk, son_ct, son_exc, son_bad, po_nx, po_rt, po_bk, po_ct, po_ex, Po.fn, start0_eq, asB_bl, der_non, der_bl, der_int, der_str, der_tup, der_lst, der_dct, opAdd_int, opAdd_str, opAdd_tup, opAdd_lst, opSub_int, opMul_int, opDiv_int, opMod_int, opLt_int, opLe_int, opGt_int, opGe_int, opEq_int, opNe_int, opIx_tup, opIx_lst, at0, at1, at2, at3, at4, fInt_int, fLen_tup, fLen_lst, fLen_dct, fLen_str, gvName_ap, tYesV_ap, gvSub_var, Option.bind_some, Option.map_some, get0, getS, set0, setS, List.getElem?_cons_zero, List.getElem?_cons_succ, List.set_cons_zero, List.set_cons_succ, List.map_cons, List.map_nil, List.length_cons, List.length_nil, List.replicate_succ, List.replicate_zero, List.cons_append, List.nil_append, List.append_nil, Nat.reduceAdd, Nat.reduceSub, Int.reduceSub, Int.reduceNeg, Int.reduceAdd, Nat.reduceMul, Nat.reduceLeDiff, LN, true_and, and_true, if_true, if_false, Bool.not_true, Bool.not_false, Bool.false_eq_true, reduceIte, decide_true, decide_false, e, eqn, he, pName, h1, h6, Bool.true_and]
      · simp only [von_nil, von_pass, von_break, von_cont, von_retN, von_expr, von_ret, von_if, von_set, von_asg, von_par2, von_par3, von_for, von_var, von_C, von_aNil, von_aCons, von_tup, von_lst, von_lstM, von_opE, von_tV, von_chain, von_tAn, von_tOr, von_tNo, von_and, von_or, von_not, von_eIf, von_call, von_callD, von_CB, von_isi, von_isis, von_pNo, von_pSo, von_sl, von_fmt, von_joined, von_runJ0, von_runJ1, von_M1, von_append, von_frz, von_iOf, von_iR1, von_iR2, von_lc, von_dct, so_some, so_none, so_bind, so_map, so_ite, on_ok, on_exc, on_bad, on_of, on_ite, on_iteB, on_runB, son_ite, son_nx, son_rt, son_bk, son_ct, son_exc, son_bad, po_nx, po_rt, po_bk, po_ct, po_ex, Po.fn, start0_eq, asB_bl, der_non, der_bl, der_int, der_str, der_tup, der_lst, der_dct, opAdd_int, opAdd_str, opAdd_tup, opAdd_lst, opSub_int, opMul_int, opDiv_int, opMod_int, opLt_int, opLe_int, opGt_int, opGe_int, opEq_int, opNe_int, opIx_tup, opIx_lst, at0, at1, at2, at3, at4, fInt_int, fLen_tup, fLen_lst, fLen_dct, fLen_str, gvName_ap, tYesV_ap, gvSub_var, Option.bind_some, Option.map_some, get0, getS, set0, setS, List.getElem?_cons_zero, List.getElem?_cons_succ, List.set_cons_zero, List.set_cons_succ, List.map_cons, List.map_nil, List.length_cons, List.length_nil, List.replicate_succ, List.replicate_zero, List.cons_append, List.nil_append, List.append_nil, Nat.reduceAdd, Nat.reduceSub, Int.reduceSub, Int.reduceNeg, Int.reduceAdd, Nat.reduceMul, Nat.reduceLeDiff, LN, true_and, and_true, if_true, if_false, Bool.not_true, Bool.not_false, Bool.false_eq_true, reduceIte, decide_true, decide_false, isK, hx2, count_eq (d := .int x.length) trivial, hc, h1, h6, pName, Bool.and_false, Bool.false_and]
    · simp only [von_nil, von_pass, von_break, von_cont, von_retN, von_expr, von_ret, von_if, von_set, von_asg, von_par2, von_par3, von_for, von_var, von_C, von_aNil, von_aCons, von_tup, von_lst, von_lstM, von_opE, von_tV, von_chain, von_tAn, von_tOr, von_tNo, von_and, von_or, von_not, von_eIf, von_call, von_callD, von_CB, von_isi, von_isis, von_pNo, von_pSo, von_sl, von_fmt, von_joined, von_runJ0, von_runJ1, von_M1, von_append, von_frz, von_iOf, von_iR1, von_iR2, von_lc, von_dct, so_some, so_none, so_bind, so_map, so_ite, on_ok, on_exc, on_bad, on_of, on_ite, on_iteB, on_runB, son_ite, son_nx, son_rt, son_bk, son_ct, son_exc, son_bad, po_nx, po_rt, po_bk, po_ct, po_ex, Po.fn, start0_eq, asB_bl, der_non, der_bl, der_int, der_str, der_tup, der_lst, der_dct, opAdd_int, opAdd_str, opAdd_tup, opAdd_lst, opSub_int, opMul_int, opDiv_int, opMod_int, opLt_int, opLe_int, opGt_int, opGe_int, opEq_int, opNe_int, opIx_tup, opIx_lst, at0, at1, at2, at3, at4, fInt_int, fLen_tup, fLen_lst, fLen_dct, fLen_str, gvName_ap, tYesV_ap, gvSub_var, Option.bind_some, Option.map_some, get0, getS, set0, setS, List.getElem?_cons_zero, List.getElem?_cons_succ, List.set_cons_zero, List.set_cons_succ, List.map_cons, List.map_nil, List.length_cons, List.length_nil, List.replicate_succ, List.replicate_zero, List.cons_append, List.nil_append, List.append_nil, Nat.reduceAdd, Nat.reduceSub, Int.reduceSub, Int.reduceNeg, Int.reduceAdd, Nat.reduceMul, Nat.reduceLeDiff, LN, true_and, and_true, if_true, if_false, Bool.not_true, Bool.not_false, Bool.false_eq_true, reduceIte, decide_true, decide_false, isK, hx2, count_eq (d := .int x.length) trivial, hc, h1, pName, Bool.and_false, Bool.false_and]
  all_goals first | exact h.elim | (simp only [von_nil, von_pass, von_break, von_cont, von_retN, von_expr, von_ret, von_if, von_set, von_asg, von_par2, von_par3, von_for, von_var, von_C, von_aNil, von_aCons, von_tup, von_lst, von_lstM, von_opE, von_tV, von_chain, von_tAn, von_tOr, von_tNo, von_and, von_or, von_not, von_eIf, von_call, von_callD, von_CB, von_isi, von_isis, von_pNo, von_pSo, von_sl, von_fmt, von_joined, von_runJ0, von_runJ1, von_M1, von_append, von_frz, von_iOf, von_iR1, von_iR2, von_lc, von_dct, so_some, so_none, so_bind, so_map, so_ite, on_ok, on_exc, on_bad, on_of, on_ite, on_iteB, on_runB, son_ite, son_nx, son_rt, son_bk, son_ct, son_exc, son_bad, po_nx, po_rt, po_bk, po_ct, po_ex, Po.fn, start0_eq, asB_bl, der_non, der_bl, der_int, der_str, der_tup, der_lst, der_dct, opAdd_int, opAdd_str, opAdd_tup, opAdd_lst, opSub_int, opMul_int, opDiv_int, opMod_int, opLt_int, opLe_int, opGt_int, opGe_int, opEq_int, opNe_int, opIx_tup, opIx_lst, at0, at1, at2, at3, at4, fInt_int, fLen_tup, fLen_lst, fLen_dct, fLen_str, gvName_ap, tYesV_ap, gvSub_var, Option.bind_some, Option.map_some, get0, getS, set0, setS, List.getElem?_cons_zero, List.getElem?_cons_succ, List.set_cons_zero, List.set_cons_succ, List.map_cons, List.map_nil, List.length_cons, List.length_nil, List.replicate_succ, List.replicate_zero, List.cons_append, List.nil_append, List.append_nil, Nat.reduceAdd, Nat.reduceSub, Int.reduceSub, Int.reduceNeg, Int.reduceAdd, Nat.reduceMul, Nat.reduceLeDiff, LN, true_and, and_true, if_true, if_false, Bool.not_true, Bool.not_false, Bool.false_eq_true, reduceIte, decide_true, decide_false, isK, pName, der_frz])
theorem spot_eq {d : D} (h : Val d) (S : Sto) : m_law_is_spot [d] S = .ok (.bl (pStd d)) S := by
  apply on_eq
  unfold m_law_is_spot fb_law_is_spot
  cases d
  case tup xs =>
    obtain ⟨hl, hx⟩ := h.2 xs rfl
    rcases xs with _ | ⟨a, _ | ⟨b, _ | ⟨c, r⟩⟩⟩
    · simp only [von_nil, von_pass, von_break, von_cont, von_retN, von_expr, von_ret, von_if, von_set, von_asg, von_par2, von_par3, von_for, von_var, von_C, von_aNil, von_aCons, von_tup, von_lst, von_lstM, von_opE, von_tV, von_chain, von_tAn, von_tOr, von_tNo, von_and, von_or, von_not, von_eIf, von_call, von_callD, von_CB, von_isi, von_isis, von_pNo, von_pSo, von_sl, von_fmt, von_joined, von_runJ0, von_runJ1, von_M1, von_append, von_frz, von_iOf, von_iR1, von_iR2, von_lc, von_dct, so_some, so_none, so_bind, so_map, so_ite, on_ok, on_exc, on_bad, on_of, on_ite, on_iteB, on_runB, son_ite, son_nx, son_rt, son_bk, son_ct, son_exc, son_bad, po_nx, po_rt, po_bk, po_ct, po_ex, Po.fn, start0_eq, asB_bl, der_non, der_bl, der_int, der_str, der_tup, der_lst, der_dct, opAdd_int, opAdd_str, opAdd_tup, opAdd_lst, opSub_int, opMul_int, opDiv_int, opMod_int, opLt_int, opLe_int, opGt_int, opGe_int, opEq_int, opNe_int, opIx_tup, opIx_lst, at0, at1, at2, at3, at4, fInt_int, fLen_tup, fLen_lst, fLen_dct, fLen_str, gvName_ap, tYesV_ap, gvSub_var, Option.bind_some, Option.map_some, get0, getS, set0, setS, List.getElem?_cons_zero, List.getElem?_cons_succ, List.set_cons_zero, List.set_cons_succ, List.map_cons, List.map_nil, List.length_cons, List.length_nil, List.replicate_succ, List.replicate_zero, List.cons_append, List.nil_append, List.append_nil, Nat.reduceAdd, Nat.reduceSub, Int.reduceSub, Int.reduceNeg, Int.reduceAdd, Nat.reduceMul, Nat.reduceLeDiff, LN, true_and, and_true, if_true, if_false, Bool.not_true, Bool.not_false, Bool.false_eq_true, reduceIte, decide_true, decide_false, isK, pStd]
      simp
    · simp only [von_nil, von_pass, von_break, von_cont, von_retN, von_expr, von_ret, von_if, von_set, von_asg, von_par2, von_par3, von_for, von_var, von_C, von_aNil, von_aCons, von_tup, von_lst, von_lstM, von_opE, von_tV, von_chain, von_tAn, von_tOr, von_tNo, von_and, von_or, von_not, von_eIf, von_call, von_callD, von_CB, von_isi, von_isis, von_pNo, von_pSo, von_sl, von_fmt, von_joined, von_runJ0, von_runJ1, von_M1, von_append, von_frz, von_iOf, von_iR1, von_iR2, von_lc, von_dct, so_some, so_none, so_bind, so_map, so_ite, on_ok, on_exc, on_bad, on_of, on_ite, on_iteB, on_runB, son_ite, son_nx, son_rt, son_bk, son_ct, son_exc, son_bad, po_nx, po_rt, po_bk, po_ct, po_ex, Po.fn, start0_eq, asB_bl, der_non, der_bl, der_int, der_str, der_tup, der_lst, der_dct, opAdd_int, opAdd_str, opAdd_tup, opAdd_lst, opSub_int, opMul_int, opDiv_int, opMod_int, opLt_int, opLe_int, opGt_int, opGe_int, opEq_int, opNe_int, opIx_tup, opIx_lst, at0, at1, at2, at3, at4, fInt_int, fLen_tup, fLen_lst, fLen_dct, fLen_str, gvName_ap, tYesV_ap, gvSub_var, Option.bind_some, Option.map_some, get0, getS, set0, setS, List.getElem?_cons_zero, List.getElem?_cons_succ, List.set_cons_zero, List.set_cons_succ, List.map_cons, List.map_nil, List.length_cons, List.length_nil, List.replicate_succ, List.replicate_zero, List.cons_append, List.nil_append, List.append_nil, Nat.reduceAdd, Nat.reduceSub, Int.reduceSub, Int.reduceNeg, Int.reduceAdd, Nat.reduceMul, Nat.reduceLeDiff, LN, true_and, and_true, if_true, if_false, Bool.not_true, Bool.not_false, Bool.false_eq_true, reduceIte, decide_true, decide_false, isK, pStd]
      simp
    · have ha : Sc a := hx a (by simp)
      have hb : Sc b := hx b (by simp)
      simp only [von_nil, von_pass, von_break, von_cont, von_retN, von_expr, von_ret, von_if, von_set, von_asg, von_par2, von_par3, von_for, von_var, von_C, von_aNil, von_aCons, von_tup, von_lst, von_lstM, von_opE, von_tV, von_chain, von_tAn, von_tOr, von_tNo, von_and, von_or, von_not, von_eIf, von_call, von_callD, von_CB, von_isi, von_isis, von_pNo, von_pSo, von_sl, von_fmt, von_joined, von_runJ0, von_runJ1, von_M1, von_append, von_frz, von_iOf, von_iR1, von_iR2, von_lc, von_dct, so_some, so_none, so_bind, so_map, so_ite, on_ok, on_exc, on_bad, on_of, on_ite, on_iteB, on_runB, son_ite, son_nx, son_rt, son_bk, son_ct, son_exc, son_bad, po_nx, po_rt, po_bk, po_ct, po_ex, Po.fn, start0_eq, asB_bl, der_non, der_bl, der_int, der_str, der_tup, der_lst, der_dct, opAdd_int, opAdd_str, opAdd_tup, opAdd_lst, opSub_int, opMul_int, opDiv_int, opMod_int, opLt_int, opLe_int, opGt_int, opGe_int, opEq_int, opNe_int, opIx_tup, opIx_lst, at0, at1, at2, at3, at4, fInt_int, fLen_tup, fLen_lst, fLen_dct, fLen_str, gvName_ap, tYesV_ap, gvSub_var, Option.bind_some, Option.map_some, get0, getS, set0, setS, List.getElem?_cons_zero, List.getElem?_cons_succ, List.set_cons_zero, List.set_cons_succ, List.map_cons, List.map_nil, List.length_cons, List.length_nil, List.replicate_succ, List.replicate_zero, List.cons_append, List.nil_append, List.append_nil, Nat.reduceAdd, Nat.reduceSub, Int.reduceSub, Int.reduceNeg, Int.reduceAdd, Nat.reduceMul, Nat.reduceLeDiff, LN, true_and, and_true, if_true, if_false, Bool.not_true, Bool.not_false, Bool.false_eq_true, reduceIte, decide_true, decide_false, isK, call_eq ha, count_eq hb, pStd, show ((0 + 1 + 1 : Nat) : Int) = 2 from rfl]
      cases pName a <;> simp
    · have hne : ¬ (((r.length + 1 + 1 + 1 : Nat) : Int) = 2) := by omega
      simp only [von_nil, von_pass, von_break, von_cont, von_retN, von_expr, von_ret, von_if, von_set, von_asg, von_par2, von_par3, von_for, von_var, von_C, von_aNil, von_aCons, von_tup, von_lst, von_lstM, von_opE, von_tV, von_chain, von_tAn, von_tOr, von_tNo, von_and, von_or, von_not, von_eIf, von_call, von_callD, von_CB, von_isi, von_isis, von_pNo, von_pSo, von_sl, von_fmt, von_joined, von_runJ0, von_runJ1, von_M1, von_append, von_frz, von_iOf, von_iR1, von_iR2, von_lc, von_dct, so_some, so_none, so_bind, so_map, so_ite, on_ok, on_exc, on_bad, on_of, on_ite, on_iteB, on_runB, son_ite, son_nx, son_rt, son_bk, son_ct, son_exc, son_bad, po_nx, po_rt, po_bk, po_ct, po_ex, Po.fn, start0_eq, asB_bl, der_non, der_bl, der_int, der_str, der_tup, der_lst, der_dct, opAdd_int, opAdd_str, opAdd_tup, opAdd_lst, opSub_int, opMul_int, opDiv_int, opMod_int, opLt_int, opLe_int, opGt_int, opGe_int, opEq_int, opNe_int, opIx_tup, opIx_lst, at0, at1, at2, at3, at4, fInt_int, fLen_tup, fLen_lst, fLen_dct, fLen_str, gvName_ap, tYesV_ap, gvSub_var, Option.bind_some, Option.map_some, get0, getS, set0, setS, List.getElem?_cons_zero, List.getElem?_cons_succ, List.set_cons_zero, List.set_cons_succ, List.map_cons, List.map_nil, List.length_cons, List.length_nil, List.replicate_succ, List.replicate_zero, List.cons_append, List.nil_append, List.append_nil, Nat.reduceAdd, Nat.reduceSub, Int.reduceSub, Int.reduceNeg, Int.reduceAdd, Nat.reduceMul, Nat.reduceLeDiff, LN, true_and, and_true, if_true, if_false, Bool.not_true, Bool.not_false, Bool.false_eq_true, reduceIte, decide_true, decide_false, isK, pStd, hne]
  all_goals first | exact h.1.elim | (simp only [von_nil, von_pass, von_break, von_cont, von_retN, von_expr, von_ret, von_if, von_set, von_asg, von_par2, von_par3, von_for, von_var, von_C, von_aNil, von_aCons, von_tup, von_lst, von_lstM, von_opE, von_tV, von_chain, von_tAn, von_tOr, von_tNo, von_and, von_or, von_not, von_eIf, von_call, von_callD, von_CB, von_isi, von_isis, von_pNo, von_pSo, von_sl, von_fmt, von_joined, von_runJ0, von_runJ1, von_M1, von_append, von_frz, von_iOf, von_iR1, von_iR2, von_lc, von_dct, so_some, so_none, so_bind, so_map, so_ite, on_ok, on_exc, on_bad, on_of, on_ite, on_iteB, on_runB, son_ite, son_nx, son_rt, son_bk, son_ct, son_exc, son_bad, po_nx, po_rt, po_bk, po_ct, po_ex, Po.fn, start0_eq, asB_bl, der_non, der_bl, der_int, der_str, der_tup, der_lst, der_dct, opAdd_int, opAdd_str, opAdd_tup, opAdd_lst, opSub_int, opMul_int, opDiv_int, opMod_int, opLt_int, opLe_int, opGt_int, opGe_int, opEq_int, opNe_int, opIx_tup, opIx_lst, at0, at1, at2, at3, at4, fInt_int, fLen_tup, fLen_lst, fLen_dct, fLen_str, gvName_ap, tYesV_ap, gvSub_var, Option.bind_some, Option.map_some, get0, getS, set0, setS, List.getElem?_cons_zero, List.getElem?_cons_succ, List.set_cons_zero, List.set_cons_succ, List.map_cons, List.map_nil, List.length_cons, List.length_nil, List.replicate_succ, List.replicate_zero, List.cons_append, List.nil_append, List.append_nil, Nat.reduceAdd, Nat.reduceSub, Int.reduceSub, Int.reduceNeg, Int.reduceAdd, Nat.reduceMul, Nat.reduceLeDiff, LN, true_and, and_true, if_true, if_false, Bool.not_true, Bool.not_false, Bool.false_eq_true, reduceIte, decide_true, decide_false, isK, pStd, der_frz])
end KG

namespace KG
open PySem PySem.Spec PyProof.Rows L2 DL PL
/-! ### what may stand in a row -/
def vlB : D → Bool
  | .tup l => decide (l.length ≤ 9) && l.all atomOk
  | .lst l => decide (l.length ≤ 9) && l.all atomOk
  | d => atomOk d
theorem atom_Sc {d : D} (h : atomOk d = true) : Sc d := by
  cases d <;> first | trivial | cases h | skip
  case str x =>
    have h : (decide (x.length ≤ 90) && x.cps.toList.all fun c => decide (c < 4294967296)) = true := h
    rw [Bool.and_eq_true, decide_eq_true_eq] at h
    show x.length ≤ 1000
    omega
theorem atom_Atm {d : D} (h : atomOk d = true) : Atm d := by
  cases d <;> first | constructor | cases h
theorem vlB_Val {d : D} (h : vlB d = true) : Val d := by
  cases d
  case tup l =>
    have h : (decide (l.length ≤ 9) && l.all atomOk) = true := h
    rw [Bool.and_eq_true, decide_eq_true_eq, List.all_eq_true] at h
    exact ⟨trivial, fun xs e => by cases e; exact ⟨by omega, fun x hx => atom_Sc (h.2 x hx)⟩⟩
  case lst l => exact ⟨trivial, fun xs e => by cases e⟩
  all_goals exact ⟨atom_Sc h, fun xs e => by cases e⟩
theorem vlB_Sc {d : D} (h : vlB d = true) : Sc d := (vlB_Val h).1
theorem vlB_msg {d : D} (h : vlB d = true) (S : Sto) : msgOk S d = true := by
  cases d
  case tup l =>
    have h : (decide (l.length ≤ 9) && l.all atomOk) = true := h
    rw [Bool.and_eq_true, decide_eq_true_eq] at h
    show (decide (l.length ≤ 100) && l.all atomOk) = true
    rw [h.2, decide_eq_true (by omega)]; rfl
  case lst l =>
    have h : (decide (l.length ≤ 9) && l.all atomOk) = true := h
    rw [Bool.and_eq_true, decide_eq_true_eq] at h
    show (decide (l.length ≤ 100) && l.all atomOk) = true
    rw [h.2, decide_eq_true (by omega)]; rfl
  all_goals first | exact h | cases h
theorem vlB_Smp {d : D} (h : vlB d = true) : Smp 1 d := by
  cases d
  case tup l =>
    have h : (decide (l.length ≤ 9) && l.all atomOk) = true := h
    rw [Bool.and_eq_true, decide_eq_true_eq, List.all_eq_true] at h
    exact .inr ⟨l, .inl rfl, by omega, fun x hx => atom_Atm (h.2 x hx)⟩
  case lst l =>
    have h : (decide (l.length ≤ 9) && l.all atomOk) = true := h
    rw [Bool.and_eq_true, decide_eq_true_eq, List.all_eq_true] at h
    exact .inr ⟨l, .inr rfl, by omega, fun x hx => atom_Atm (h.2 x hx)⟩
  all_goals first | exact .inl (atom_Atm h) | cases h
/-! ### what is due -/
abbrev Er := Option (Nat × D)
def cdS : Nat → Str
  | 1 => "InvalidName"
  | 2 => "InvalidNumber"
  | _ => "InvalidStanding"
def toR (o : Er) (S : Sto) : Ret D := match o with
  | none => .ok .non S
  | some (c, d) => .exc (excD c (cdS c) ["value"] [d]) S
def ckE (b : Bool) (c : Nat) (d : D) (o : Er) : Er := if b = true then o else some (c, d)
def erN (a b : D) (o : Er) : Er := ckE (pName a) 1 a (ckE (pName b) 1 b o)
def erT (h p : D) (o : Er) : Er := ckE (pNum 1 99 h) 2 h (ckE (pNum 0 999 p) 2 p o)
def erR (r : D) (o : Er) : Er := ckE (pNum 0 99 r) 2 r o
def hourOf : D → Int
  | .tup [_, .int i] => i
  | _ => 0
def erW (a b s t h p r : D) : Er := erN a b (ckE (pStd s) 3 s (ckE (pStd t && !decide (hourOf t ≤ hourOf s)) 3 t (erT h p (erR r none))))
def erH (a b t h p r : D) : Er := erN a b (ckE (pStd t) 3 t (erT h p (erR r none)))
theorem ck_t {b : Bool} (h : b = true) (c : Nat) (d : D) (o : Er) : ckE b c d o = o := by rw [h]; rfl
theorem ck_f {b : Bool} (h : b = false) (c : Nat) (d : D) (o : Er) : ckE b c d o = some (c, d) := by rw [h]; rfl
theorem on_eqR {r : Ret D} {o : Er} {S0 : Sto} (h : r.oo (fun d S => toR o S0 = .ok d S) (fun x S => toR o S0 = .exc x S)) : r = toR o S0 := by
  unfold Ret.oo Ret.on at h
  cases r with
  | ok a S => exact h.symm
  | exc e S => exact h.symm
  | bad => exact h.elim
theorem msg1 (S : Sto) (d : D) : msgAll S [d] [0] = msgOk S d := by
  show (msgOk S d && true) = _
  rw [Bool.and_true]
theorem any_tup (x : List D) : asAny (.tup x) = some x := rfl
theorem names_chk {a b : D} (ha : vlB a = true) (hb : vlB b = true) (S : Sto) : m_check_names [a, b] S = toR (erN a b none) S := by
  apply on_eqR
  unfold m_check_names fb_check_names
  cases h1 : pName a with
  | false =>
    simp only [von_nil, von_pass, von_break, von_cont, von_retN, von_expr, von_ret, von_if, von_set, von_asg, von_par2, von_par3, von_for, von_var, von_C, von_aNil, von_aCons, von_tup, von_lst, von_lstM, von_opE, von_tV, von_chain, von_tAn, von_tOr, von_tNo, von_and, von_or, von_not, von_eIf, von_call, von_callD, von_CB, von_isi, von_isis, von_pNo, von_pSo, von_sl, von_fmt, von_joined, von_runJ0, von_runJ1, von_M1, von_append, von_frz, von_iOf, von_iR1, von_iR2, von_lc, von_dct, so_some, so_none, so_bind, so_map, so_ite, on_ok, on_exc, on_bad, on_of, on_ite, on_iteB, on_runB, son_ite, son_nx, son_rt, son_bk, son_ct, son_exc, son_bad, po_nx, po_rt, po_bk, po_ct, po_ex, Po.fn, start0_eq, asB_bl, der_non, der_bl, der_int, der_str, der_tup, der_lst, der_dct, opAdd_int, opAdd_str, opAdd_tup, opAdd_lst, opSub_int, opMul_int, opDiv_int, opMod_int, opLt_int, opLe_int, opGt_int, opGe_int, opEq_int, opNe_int, opIx_tup, opIx_lst, at0, at1, at2, at3, at4, fInt_int, fLen_tup, fLen_lst, fLen_dct, fLen_str, gvName_ap, tYesV_ap, gvSub_var, Option.bind_some, Option.map_some, get0, getS, set0, setS, List.getElem?_cons_zero, List.getElem?_cons_succ, List.set_cons_zero, List.set_cons_succ, List.map_cons, List.map_nil, List.length_cons, List.length_nil, List.replicate_succ, List.replicate_zero, List.cons_append, List.nil_append, List.append_nil, Nat.reduceAdd, Nat.reduceSub, Int.reduceSub, Int.reduceNeg, Int.reduceAdd, Nat.reduceMul, Nat.reduceLeDiff, LN, true_and, and_true, if_true, if_false, Bool.not_true, Bool.not_false, Bool.false_eq_true, reduceIte, decide_true, decide_false, forL_cons, forL_nil, any_tup, von_raise, msg1, name_eq (vlB_Sc ha), h1, vlB_msg ha, erN, ckE, toR, cdS]
  | true =>
    cases h2 : pName b with
    | false => simp only [von_nil, von_pass, von_break, von_cont, von_retN, von_expr, von_ret, von_if, von_set, von_asg, von_par2, von_par3, von_for, von_var, von_C, von_aNil, von_aCons, von_tup, von_lst, von_lstM, von_opE, von_tV, von_chain, von_tAn, von_tOr, von_tNo, von_and, von_or, von_not, von_eIf, von_call, von_callD, von_CB, von_isi, von_isis, von_pNo, von_pSo, von_sl, von_fmt, von_joined, von_runJ0, von_runJ1, von_M1, von_append, von_frz, von_iOf, von_iR1, von_iR2, von_lc, von_dct, so_some, so_none, so_bind, so_map, so_ite, on_ok, on_exc, on_bad, on_of, on_ite, on_iteB, on_runB, son_ite, son_nx, son_rt, son_bk, son_ct, son_exc, son_bad, po_nx, po_rt, po_bk, po_ct, po_ex, Po.fn, start0_eq, asB_bl, der_non, der_bl, der_int, der_str, der_tup, der_lst, der_dct, opAdd_int, opAdd_str, opAdd_tup, opAdd_lst, opSub_int, opMul_int, opDiv_int, opMod_int, opLt_int, opLe_int, opGt_int, opGe_int, opEq_int, opNe_int, opIx_tup, opIx_lst, at0, at1, at2, at3, at4, fInt_int, fLen_tup, fLen_lst, fLen_dct, fLen_str, gvName_ap, tYesV_ap, gvSub_var, Option.bind_some, Option.map_some, get0, getS, set0, setS, List.getElem?_cons_zero, List.getElem?_cons_succ, List.set_cons_zero, List.set_cons_succ, List.map_cons, List.map_nil, List.length_cons, List.length_nil, List.replicate_succ, List.replicate_zero, List.cons_append, List.nil_append, List.append_nil, Nat.reduceAdd, Nat.reduceSub, Int.reduceSub, Int.reduceNeg, Int.reduceAdd, Nat.reduceMul, Nat.reduceLeDiff, LN, true_and, and_true, if_true, if_false, Bool.not_true, Bool.not_false, Bool.false_eq_true, reduceIte, decide_true, decide_false, forL_cons, forL_nil, any_tup, von_raise, msg1, name_eq (vlB_Sc ha), name_eq (vlB_Sc hb), h1, h2, vlB_msg hb, erN, ckE, toR, cdS]
    | true => simp only [von_nil, von_pass, von_break, von_cont, von_retN, von_expr, von_ret, von_if, von_set, von_asg, von_par2, von_par3, von_for, von_var, von_C, von_aNil, von_aCons, von_tup, von_lst, von_lstM, von_opE, von_tV, von_chain, von_tAn, von_tOr, von_tNo, von_and, von_or, von_not, von_eIf, von_call, von_callD, von_CB, von_isi, von_isis, von_pNo, von_pSo, von_sl, von_fmt, von_joined, von_runJ0, von_runJ1, von_M1, von_append, von_frz, von_iOf, von_iR1, von_iR2, von_lc, von_dct, so_some, so_none, so_bind, so_map, so_ite, on_ok, on_exc, on_bad, on_of, on_ite, on_iteB, on_runB, son_ite, son_nx, son_rt, son_bk, son_ct, son_exc, son_bad, po_nx, po_rt, po_bk, po_ct, po_ex, Po.fn, start0_eq, asB_bl, der_non, der_bl, der_int, der_str, der_tup, der_lst, der_dct, opAdd_int, opAdd_str, opAdd_tup, opAdd_lst, opSub_int, opMul_int, opDiv_int, opMod_int, opLt_int, opLe_int, opGt_int, opGe_int, opEq_int, opNe_int, opIx_tup, opIx_lst, at0, at1, at2, at3, at4, fInt_int, fLen_tup, fLen_lst, fLen_dct, fLen_str, gvName_ap, tYesV_ap, gvSub_var, Option.bind_some, Option.map_some, get0, getS, set0, setS, List.getElem?_cons_zero, List.getElem?_cons_succ, List.set_cons_zero, List.set_cons_succ, List.map_cons, List.map_nil, List.length_cons, List.length_nil, List.replicate_succ, List.replicate_zero, List.cons_append, List.nil_append, List.append_nil, Nat.reduceAdd, Nat.reduceSub, Int.reduceSub, Int.reduceNeg, Int.reduceAdd, Nat.reduceMul, Nat.reduceLeDiff, LN, true_and, and_true, if_true, if_false, Bool.not_true, Bool.not_false, Bool.false_eq_true, reduceIte, decide_true, decide_false, forL_cons, forL_nil, any_tup, von_raise, msg1, name_eq (vlB_Sc ha), name_eq (vlB_Sc hb), h1, h2, vlB_msg hb, erN, ckE, toR, cdS]
theorem rank_chk {a : D} (ha : vlB a = true) (S : Sto) : m_check_rank [a] S = toR (erR a none) S := by
  apply on_eqR
  unfold m_check_rank fb_check_rank
  cases h1 : pNum 0 99 a with
  | false => simp only [von_nil, von_pass, von_break, von_cont, von_retN, von_expr, von_ret, von_if, von_set, von_asg, von_par2, von_par3, von_for, von_var, von_C, von_aNil, von_aCons, von_tup, von_lst, von_lstM, von_opE, von_tV, von_chain, von_tAn, von_tOr, von_tNo, von_and, von_or, von_not, von_eIf, von_call, von_callD, von_CB, von_isi, von_isis, von_pNo, von_pSo, von_sl, von_fmt, von_joined, von_runJ0, von_runJ1, von_M1, von_append, von_frz, von_iOf, von_iR1, von_iR2, von_lc, von_dct, so_some, so_none, so_bind, so_map, so_ite, on_ok, on_exc, on_bad, on_of, on_ite, on_iteB, on_runB, son_ite, son_nx, son_rt, son_bk, son_ct, son_exc, son_bad, po_nx, po_rt, po_bk, po_ct, po_ex, Po.fn, start0_eq, asB_bl, der_non, der_bl, der_int, der_str, der_tup, der_lst, der_dct, opAdd_int, opAdd_str, opAdd_tup, opAdd_lst, opSub_int, opMul_int, opDiv_int, opMod_int, opLt_int, opLe_int, opGt_int, opGe_int, opEq_int, opNe_int, opIx_tup, opIx_lst, at0, at1, at2, at3, at4, fInt_int, fLen_tup, fLen_lst, fLen_dct, fLen_str, gvName_ap, tYesV_ap, gvSub_var, Option.bind_some, Option.map_some, get0, getS, set0, setS, List.getElem?_cons_zero, List.getElem?_cons_succ, List.set_cons_zero, List.set_cons_succ, List.map_cons, List.map_nil, List.length_cons, List.length_nil, List.replicate_succ, List.replicate_zero, List.cons_append, List.nil_append, List.append_nil, Nat.reduceAdd, Nat.reduceSub, Int.reduceSub, Int.reduceNeg, Int.reduceAdd, Nat.reduceMul, Nat.reduceLeDiff, LN, true_and, and_true, if_true, if_false, Bool.not_true, Bool.not_false, Bool.false_eq_true, reduceIte, decide_true, decide_false, von_raise, msg1, num_eq (vlB_Sc ha), h1, vlB_msg ha, erR, ckE, toR, cdS]
  | true => simp only [von_nil, von_pass, von_break, von_cont, von_retN, von_expr, von_ret, von_if, von_set, von_asg, von_par2, von_par3, von_for, von_var, von_C, von_aNil, von_aCons, von_tup, von_lst, von_lstM, von_opE, von_tV, von_chain, von_tAn, von_tOr, von_tNo, von_and, von_or, von_not, von_eIf, von_call, von_callD, von_CB, von_isi, von_isis, von_pNo, von_pSo, von_sl, von_fmt, von_joined, von_runJ0, von_runJ1, von_M1, von_append, von_frz, von_iOf, von_iR1, von_iR2, von_lc, von_dct, so_some, so_none, so_bind, so_map, so_ite, on_ok, on_exc, on_bad, on_of, on_ite, on_iteB, on_runB, son_ite, son_nx, son_rt, son_bk, son_ct, son_exc, son_bad, po_nx, po_rt, po_bk, po_ct, po_ex, Po.fn, start0_eq, asB_bl, der_non, der_bl, der_int, der_str, der_tup, der_lst, der_dct, opAdd_int, opAdd_str, opAdd_tup, opAdd_lst, opSub_int, opMul_int, opDiv_int, opMod_int, opLt_int, opLe_int, opGt_int, opGe_int, opEq_int, opNe_int, opIx_tup, opIx_lst, at0, at1, at2, at3, at4, fInt_int, fLen_tup, fLen_lst, fLen_dct, fLen_str, gvName_ap, tYesV_ap, gvSub_var, Option.bind_some, Option.map_some, get0, getS, set0, setS, List.getElem?_cons_zero, List.getElem?_cons_succ, List.set_cons_zero, List.set_cons_succ, List.map_cons, List.map_nil, List.length_cons, List.length_nil, List.replicate_succ, List.replicate_zero, List.cons_append, List.nil_append, List.append_nil, Nat.reduceAdd, Nat.reduceSub, Int.reduceSub, Int.reduceNeg, Int.reduceAdd, Nat.reduceMul, Nat.reduceLeDiff, LN, true_and, and_true, if_true, if_false, Bool.not_true, Bool.not_false, Bool.false_eq_true, reduceIte, decide_true, decide_false, von_raise, msg1, num_eq (vlB_Sc ha), h1, vlB_msg ha, erR, ckE, toR, cdS]
theorem terms_chk {a b : D} (ha : vlB a = true) (hb : vlB b = true) (S : Sto) : m_check_terms [a, b] S = toR (erT a b none) S := by
  apply on_eqR
  unfold m_check_terms fb_check_terms
  rw [on_runB]
  refine seq_i fun R hR => ?_
  cases h1 : pNum 1 99 a with
  | false => simp only [von_nil, von_pass, von_break, von_cont, von_retN, von_expr, von_ret, von_if, von_set, von_asg, von_par2, von_par3, von_for, von_var, von_C, von_aNil, von_aCons, von_tup, von_lst, von_lstM, von_opE, von_tV, von_chain, von_tAn, von_tOr, von_tNo, von_and, von_or, von_not, von_eIf, von_call, von_callD, von_CB, von_isi, von_isis, von_pNo, von_pSo, von_sl, von_fmt, von_joined, von_runJ0, von_runJ1, von_M1, von_append, von_frz, von_iOf, von_iR1, von_iR2, von_lc, von_dct, so_some, so_none, so_bind, so_map, so_ite, on_ok, on_exc, on_bad, on_of, on_ite, on_iteB, on_runB, son_ite, son_nx, son_rt, son_bk, son_ct, son_exc, son_bad, po_nx, po_rt, po_bk, po_ct, po_ex, Po.fn, start0_eq, asB_bl, der_non, der_bl, der_int, der_str, der_tup, der_lst, der_dct, opAdd_int, opAdd_str, opAdd_tup, opAdd_lst, opSub_int, opMul_int, opDiv_int, opMod_int, opLt_int, opLe_int, opGt_int, opGe_int, opEq_int, opNe_int, opIx_tup, opIx_lst, at0, at1, at2, at3, at4, fInt_int, fLen_tup, fLen_lst, fLen_dct, fLen_str, gvName_ap, tYesV_ap, gvSub_var, Option.bind_some, Option.map_some, get0, getS, set0, setS, List.getElem?_cons_zero, List.getElem?_cons_succ, List.set_cons_zero, List.set_cons_succ, List.map_cons, List.map_nil, List.length_cons, List.length_nil, List.replicate_succ, List.replicate_zero, List.cons_append, List.nil_append, List.append_nil, Nat.reduceAdd, Nat.reduceSub, Int.reduceSub, Int.reduceNeg, Int.reduceAdd, Nat.reduceMul, Nat.reduceLeDiff, LN, true_and, and_true, if_true, if_false, Bool.not_true, Bool.not_false, Bool.false_eq_true, reduceIte, decide_true, decide_false, von_raise, msg1, num_eq (vlB_Sc ha), h1, vlB_msg ha, erT, ckE, toR, cdS]
  | true =>
    simp only [von_nil, von_pass, von_break, von_cont, von_retN, von_expr, von_ret, von_if, von_set, von_asg, von_par2, von_par3, von_for, von_var, von_C, von_aNil, von_aCons, von_tup, von_lst, von_lstM, von_opE, von_tV, von_chain, von_tAn, von_tOr, von_tNo, von_and, von_or, von_not, von_eIf, von_call, von_callD, von_CB, von_isi, von_isis, von_pNo, von_pSo, von_sl, von_fmt, von_joined, von_runJ0, von_runJ1, von_M1, von_append, von_frz, von_iOf, von_iR1, von_iR2, von_lc, von_dct, so_some, so_none, so_bind, so_map, so_ite, on_ok, on_exc, on_bad, on_of, on_ite, on_iteB, on_runB, son_ite, son_nx, son_rt, son_bk, son_ct, son_exc, son_bad, po_nx, po_rt, po_bk, po_ct, po_ex, Po.fn, start0_eq, asB_bl, der_non, der_bl, der_int, der_str, der_tup, der_lst, der_dct, opAdd_int, opAdd_str, opAdd_tup, opAdd_lst, opSub_int, opMul_int, opDiv_int, opMod_int, opLt_int, opLe_int, opGt_int, opGe_int, opEq_int, opNe_int, opIx_tup, opIx_lst, at0, at1, at2, at3, at4, fInt_int, fLen_tup, fLen_lst, fLen_dct, fLen_str, gvName_ap, tYesV_ap, gvSub_var, Option.bind_some, Option.map_some, get0, getS, set0, setS, List.getElem?_cons_zero, List.getElem?_cons_succ, List.set_cons_zero, List.set_cons_succ, List.map_cons, List.map_nil, List.length_cons, List.length_nil, List.replicate_succ, List.replicate_zero, List.cons_append, List.nil_append, List.append_nil, Nat.reduceAdd, Nat.reduceSub, Int.reduceSub, Int.reduceNeg, Int.reduceAdd, Nat.reduceMul, Nat.reduceLeDiff, LN, true_and, and_true, if_true, if_false, Bool.not_true, Bool.not_false, Bool.false_eq_true, reduceIte, decide_true, decide_false, von_raise, msg1, num_eq (vlB_Sc ha), h1]
    refine hR _ _ ?_
    cases h2 : pNum 0 999 b with
    | false => simp only [von_nil, von_pass, von_break, von_cont, von_retN, von_expr, von_ret, von_if, von_set, von_asg, von_par2, von_par3, von_for, von_var, von_C, von_aNil, von_aCons, von_tup, von_lst, von_lstM, von_opE, von_tV, von_chain, von_tAn, von_tOr, von_tNo, von_and, von_or, von_not, von_eIf, von_call, von_callD, von_CB, von_isi, von_isis, von_pNo, von_pSo, von_sl, von_fmt, von_joined, von_runJ0, von_runJ1, von_M1, von_append, von_frz, von_iOf, von_iR1, von_iR2, von_lc, von_dct, so_some, so_none, so_bind, so_map, so_ite, on_ok, on_exc, on_bad, on_of, on_ite, on_iteB, on_runB, son_ite, son_nx, son_rt, son_bk, son_ct, son_exc, son_bad, po_nx, po_rt, po_bk, po_ct, po_ex, Po.fn, start0_eq, asB_bl, der_non, der_bl, der_int, der_str, der_tup, der_lst, der_dct, opAdd_int, opAdd_str, opAdd_tup, opAdd_lst, opSub_int, opMul_int, opDiv_int, opMod_int, opLt_int, opLe_int, opGt_int, opGe_int, opEq_int, opNe_int, opIx_tup, opIx_lst, at0, at1, at2, at3, at4, fInt_int, fLen_tup, fLen_lst, fLen_dct, fLen_str, gvName_ap, tYesV_ap, gvSub_var, Option.bind_some, Option.map_some, get0, getS, set0, setS, List.getElem?_cons_zero, List.getElem?_cons_succ, List.set_cons_zero, List.set_cons_succ, List.map_cons, List.map_nil, List.length_cons, List.length_nil, List.replicate_succ, List.replicate_zero, List.cons_append, List.nil_append, List.append_nil, Nat.reduceAdd, Nat.reduceSub, Int.reduceSub, Int.reduceNeg, Int.reduceAdd, Nat.reduceMul, Nat.reduceLeDiff, LN, true_and, and_true, if_true, if_false, Bool.not_true, Bool.not_false, Bool.false_eq_true, reduceIte, decide_true, decide_false, von_raise, msg1, num_eq (vlB_Sc hb), h1, h2, vlB_msg hb, erT, ckE, toR, cdS]
    | true => simp only [von_nil, von_pass, von_break, von_cont, von_retN, von_expr, von_ret, von_if, von_set, von_asg, von_par2, von_par3, von_for, von_var, von_C, von_aNil, von_aCons, von_tup, von_lst, von_lstM, von_opE, von_tV, von_chain, von_tAn, von_tOr, von_tNo, von_and, von_or, von_not, von_eIf, von_call, von_callD, von_CB, von_isi, von_isis, von_pNo, von_pSo, von_sl, von_fmt, von_joined, von_runJ0, von_runJ1, von_M1, von_append, von_frz, von_iOf, von_iR1, von_iR2, von_lc, von_dct, so_some, so_none, so_bind, so_map, so_ite, on_ok, on_exc, on_bad, on_of, on_ite, on_iteB, on_runB, son_ite, son_nx, son_rt, son_bk, son_ct, son_exc, son_bad, po_nx, po_rt, po_bk, po_ct, po_ex, Po.fn, start0_eq, asB_bl, der_non, der_bl, der_int, der_str, der_tup, der_lst, der_dct, opAdd_int, opAdd_str, opAdd_tup, opAdd_lst, opSub_int, opMul_int, opDiv_int, opMod_int, opLt_int, opLe_int, opGt_int, opGe_int, opEq_int, opNe_int, opIx_tup, opIx_lst, at0, at1, at2, at3, at4, fInt_int, fLen_tup, fLen_lst, fLen_dct, fLen_str, gvName_ap, tYesV_ap, gvSub_var, Option.bind_some, Option.map_some, get0, getS, set0, setS, List.getElem?_cons_zero, List.getElem?_cons_succ, List.set_cons_zero, List.set_cons_succ, List.map_cons, List.map_nil, List.length_cons, List.length_nil, List.replicate_succ, List.replicate_zero, List.cons_append, List.nil_append, List.append_nil, Nat.reduceAdd, Nat.reduceSub, Int.reduceSub, Int.reduceNeg, Int.reduceAdd, Nat.reduceMul, Nat.reduceLeDiff, LN, true_and, and_true, if_true, if_false, Bool.not_true, Bool.not_false, Bool.false_eq_true, reduceIte, decide_true, decide_false, von_raise, msg1, num_eq (vlB_Sc hb), h1, h2, vlB_msg hb, erT, ckE, toR, cdS]
end KG

namespace KG
open PySem PySem.Spec PyProof.Rows L2 DL PL
theorem putFD_len (n : Str) (d : D) : ∀ fs : List (Str × D), (putFD n d fs).length ≤ fs.length + 1
  | [] => Nat.le_refl _
  | (h, x) :: r => by
    unfold putFD
    by_cases e : h = n
    · rw [if_pos e]; exact Nat.le_succ _
    · rw [if_neg e]; exact Nat.succ_le_succ (putFD_len n d r)
/-- the store, with an instance of c at l -/
def Insk (S0 : Sto) (l c k : Nat) (S : Sto) : Prop := l < S0.length ∧ ∃ fs : List (Str × D), S = S0.set l (.ins c fs) ∧ fs.length ≤ k
theorem insk0 {S : Sto} {l c : Nat} (h : S[l]? = some (.ins c [])) : Insk S l c 0 S := by
  obtain ⟨hl, e⟩ := List.getElem?_eq_some_iff.mp h
  exact ⟨hl, [], by rw [← e, List.set_getElem_self], Nat.le_refl _⟩
theorem Insk.at {S0 S : Sto} {l c k : Nat} (h : Insk S0 l c k S) : ∃ fs : List (Str × D), S[l]? = some (.ins c fs) ∧ fs.length ≤ k := by
  obtain ⟨hl, fs, rfl, hk⟩ := h
  exact ⟨fs, List.getElem?_set_self hl, hk⟩
theorem attr_step {cs : List Nat} {n : Str} {fo fv : Ev} {e : DL.Env} {S0 S : Sto} {l c k : Nat} {P : Po} (hI : Insk S0 l c k S) (hv : (fv e S).oo (fun _ S1 => S1 = S) (fun _ _ => False)) (ho : fo e S = .ok (.loc l) S) (hc : cs.contains c = true) (hk : k ≤ 100)
    (h : ∀ S', Insk S0 l c (k + 1) S' → P.nx e S') : (sAttr cs n fo fv e S).oo P := by
  obtain ⟨hl, fs, rfl, hf⟩ := hI
  cases hd : fv e (S0.set l (.ins c fs)) with
  | ok d S1 =>
    rw [hd, on_ok] at hv
    subst hv
    refine attr_on hd ho (List.getElem?_set_self hl) hc (by omega) (h _ ⟨hl, _, List.set_set _, ?_⟩)
    have := putFD_len n d fs
    omega
  | exc x S1 => rw [hd, on_exc] at hv; exact hv.elim
  | bad => rw [hd, on_bad] at hv; exact hv.elim
theorem asking_on {S0 S : Sto} {l c k : Nat} {a b h p r : D} {K : D → Sto → Prop} {E : Exc → Sto → Prop} (hI : Insk S0 l c k S) (hc : ics.contains c = true) (hk : k ≤ 90) (q : ∀ S', Insk S0 l c (k + 5) S' → K .non S') : (m_Asking_init [.loc l, a, b, h, p, r] S).oo K E := by
  unfold m_Asking_init fb_Asking_init
  rw [on_runB]
  refine seq_i fun R hR => attr_step hI (by simp only [von_nil, von_pass, von_break, von_cont, von_retN, von_expr, von_ret, von_if, von_set, von_asg, von_par2, von_par3, von_for, von_var, von_C, von_aNil, von_aCons, von_tup, von_lst, von_lstM, von_opE, von_tV, von_chain, von_tAn, von_tOr, von_tNo, von_and, von_or, von_not, von_eIf, von_call, von_callD, von_CB, von_isi, von_isis, von_pNo, von_pSo, von_sl, von_fmt, von_joined, von_runJ0, von_runJ1, von_M1, von_append, von_frz, von_iOf, von_iR1, von_iR2, von_lc, von_dct, so_some, so_none, so_bind, so_map, so_ite, on_ok, on_exc, on_bad, on_of, on_ite, on_iteB, on_runB, son_ite, son_nx, son_rt, son_bk, son_ct, son_exc, son_bad, po_nx, po_rt, po_bk, po_ct, po_ex, Po.fn, start0_eq, asB_bl, der_non, der_bl, der_int, der_str, der_tup, der_lst, der_dct, opAdd_int, opAdd_str, opAdd_tup, opAdd_lst, opSub_int, opMul_int, opDiv_int, opMod_int, opLt_int, opLe_int, opGt_int, opGe_int, opEq_int, opNe_int, opIx_tup, opIx_lst, at0, at1, at2, at3, at4, fInt_int, fLen_tup, fLen_lst, fLen_dct, fLen_str, gvName_ap, tYesV_ap, gvSub_var, Option.bind_some, Option.map_some, get0, getS, set0, setS, List.getElem?_cons_zero, List.getElem?_cons_succ, List.set_cons_zero, List.set_cons_succ, List.map_cons, List.map_nil, List.length_cons, List.length_nil, List.replicate_succ, List.replicate_zero, List.cons_append, List.nil_append, List.append_nil, Nat.reduceAdd, Nat.reduceSub, Int.reduceSub, Int.reduceNeg, Int.reduceAdd, Nat.reduceMul, Nat.reduceLeDiff, LN, true_and, and_true, if_true, if_false, Bool.not_true, Bool.not_false, Bool.false_eq_true, reduceIte, decide_true, decide_false]) rfl hc (by omega) fun S1 h1 => hR _ _ ?_
  clear hR R
  refine seq_i fun R hR => attr_step h1 (by simp only [von_nil, von_pass, von_break, von_cont, von_retN, von_expr, von_ret, von_if, von_set, von_asg, von_par2, von_par3, von_for, von_var, von_C, von_aNil, von_aCons, von_tup, von_lst, von_lstM, von_opE, von_tV, von_chain, von_tAn, von_tOr, von_tNo, von_and, von_or, von_not, von_eIf, von_call, von_callD, von_CB, von_isi, von_isis, von_pNo, von_pSo, von_sl, von_fmt, von_joined, von_runJ0, von_runJ1, von_M1, von_append, von_frz, von_iOf, von_iR1, von_iR2, von_lc, von_dct, so_some, so_none, so_bind, so_map, so_ite, on_ok, on_exc, on_bad, on_of, on_ite, on_iteB, on_runB, son_ite, son_nx, son_rt, son_bk, son_ct, son_exc, son_bad, po_nx, po_rt, po_bk, po_ct, po_ex, Po.fn, start0_eq, asB_bl, der_non, der_bl, der_int, der_str, der_tup, der_lst, der_dct, opAdd_int, opAdd_str, opAdd_tup, opAdd_lst, opSub_int, opMul_int, opDiv_int, opMod_int, opLt_int, opLe_int, opGt_int, opGe_int, opEq_int, opNe_int, opIx_tup, opIx_lst, at0, at1, at2, at3, at4, fInt_int, fLen_tup, fLen_lst, fLen_dct, fLen_str, gvName_ap, tYesV_ap, gvSub_var, Option.bind_some, Option.map_some, get0, getS, set0, setS, List.getElem?_cons_zero, List.getElem?_cons_succ, List.set_cons_zero, List.set_cons_succ, List.map_cons, List.map_nil, List.length_cons, List.length_nil, List.replicate_succ, List.replicate_zero, List.cons_append, List.nil_append, List.append_nil, Nat.reduceAdd, Nat.reduceSub, Int.reduceSub, Int.reduceNeg, Int.reduceAdd, Nat.reduceMul, Nat.reduceLeDiff, LN, true_and, and_true, if_true, if_false, Bool.not_true, Bool.not_false, Bool.false_eq_true, reduceIte, decide_true, decide_false]) rfl hc (by omega) fun S2 h2 => hR _ _ ?_
  clear hR R
  refine seq_i fun R hR => attr_step h2 (by simp only [von_nil, von_pass, von_break, von_cont, von_retN, von_expr, von_ret, von_if, von_set, von_asg, von_par2, von_par3, von_for, von_var, von_C, von_aNil, von_aCons, von_tup, von_lst, von_lstM, von_opE, von_tV, von_chain, von_tAn, von_tOr, von_tNo, von_and, von_or, von_not, von_eIf, von_call, von_callD, von_CB, von_isi, von_isis, von_pNo, von_pSo, von_sl, von_fmt, von_joined, von_runJ0, von_runJ1, von_M1, von_append, von_frz, von_iOf, von_iR1, von_iR2, von_lc, von_dct, so_some, so_none, so_bind, so_map, so_ite, on_ok, on_exc, on_bad, on_of, on_ite, on_iteB, on_runB, son_ite, son_nx, son_rt, son_bk, son_ct, son_exc, son_bad, po_nx, po_rt, po_bk, po_ct, po_ex, Po.fn, start0_eq, asB_bl, der_non, der_bl, der_int, der_str, der_tup, der_lst, der_dct, opAdd_int, opAdd_str, opAdd_tup, opAdd_lst, opSub_int, opMul_int, opDiv_int, opMod_int, opLt_int, opLe_int, opGt_int, opGe_int, opEq_int, opNe_int, opIx_tup, opIx_lst, at0, at1, at2, at3, at4, fInt_int, fLen_tup, fLen_lst, fLen_dct, fLen_str, gvName_ap, tYesV_ap, gvSub_var, Option.bind_some, Option.map_some, get0, getS, set0, setS, List.getElem?_cons_zero, List.getElem?_cons_succ, List.set_cons_zero, List.set_cons_succ, List.map_cons, List.map_nil, List.length_cons, List.length_nil, List.replicate_succ, List.replicate_zero, List.cons_append, List.nil_append, List.append_nil, Nat.reduceAdd, Nat.reduceSub, Int.reduceSub, Int.reduceNeg, Int.reduceAdd, Nat.reduceMul, Nat.reduceLeDiff, LN, true_and, and_true, if_true, if_false, Bool.not_true, Bool.not_false, Bool.false_eq_true, reduceIte, decide_true, decide_false]) rfl hc (by omega) fun S3 h3 => hR _ _ ?_
  clear hR R
  refine seq_i fun R hR => attr_step h3 (by simp only [von_nil, von_pass, von_break, von_cont, von_retN, von_expr, von_ret, von_if, von_set, von_asg, von_par2, von_par3, von_for, von_var, von_C, von_aNil, von_aCons, von_tup, von_lst, von_lstM, von_opE, von_tV, von_chain, von_tAn, von_tOr, von_tNo, von_and, von_or, von_not, von_eIf, von_call, von_callD, von_CB, von_isi, von_isis, von_pNo, von_pSo, von_sl, von_fmt, von_joined, von_runJ0, von_runJ1, von_M1, von_append, von_frz, von_iOf, von_iR1, von_iR2, von_lc, von_dct, so_some, so_none, so_bind, so_map, so_ite, on_ok, on_exc, on_bad, on_of, on_ite, on_iteB, on_runB, son_ite, son_nx, son_rt, son_bk, son_ct, son_exc, son_bad, po_nx, po_rt, po_bk, po_ct, po_ex, Po.fn, start0_eq, asB_bl, der_non, der_bl, der_int, der_str, der_tup, der_lst, der_dct, opAdd_int, opAdd_str, opAdd_tup, opAdd_lst, opSub_int, opMul_int, opDiv_int, opMod_int, opLt_int, opLe_int, opGt_int, opGe_int, opEq_int, opNe_int, opIx_tup, opIx_lst, at0, at1, at2, at3, at4, fInt_int, fLen_tup, fLen_lst, fLen_dct, fLen_str, gvName_ap, tYesV_ap, gvSub_var, Option.bind_some, Option.map_some, get0, getS, set0, setS, List.getElem?_cons_zero, List.getElem?_cons_succ, List.set_cons_zero, List.set_cons_succ, List.map_cons, List.map_nil, List.length_cons, List.length_nil, List.replicate_succ, List.replicate_zero, List.cons_append, List.nil_append, List.append_nil, Nat.reduceAdd, Nat.reduceSub, Int.reduceSub, Int.reduceNeg, Int.reduceAdd, Nat.reduceMul, Nat.reduceLeDiff, LN, true_and, and_true, if_true, if_false, Bool.not_true, Bool.not_false, Bool.false_eq_true, reduceIte, decide_true, decide_false]) rfl hc (by omega) fun S4 h4 => hR _ _ ?_
  clear hR R
  exact attr_step h4 (by simp only [von_nil, von_pass, von_break, von_cont, von_retN, von_expr, von_ret, von_if, von_set, von_asg, von_par2, von_par3, von_for, von_var, von_C, von_aNil, von_aCons, von_tup, von_lst, von_lstM, von_opE, von_tV, von_chain, von_tAn, von_tOr, von_tNo, von_and, von_or, von_not, von_eIf, von_call, von_callD, von_CB, von_isi, von_isis, von_pNo, von_pSo, von_sl, von_fmt, von_joined, von_runJ0, von_runJ1, von_M1, von_append, von_frz, von_iOf, von_iR1, von_iR2, von_lc, von_dct, so_some, so_none, so_bind, so_map, so_ite, on_ok, on_exc, on_bad, on_of, on_ite, on_iteB, on_runB, son_ite, son_nx, son_rt, son_bk, son_ct, son_exc, son_bad, po_nx, po_rt, po_bk, po_ct, po_ex, Po.fn, start0_eq, asB_bl, der_non, der_bl, der_int, der_str, der_tup, der_lst, der_dct, opAdd_int, opAdd_str, opAdd_tup, opAdd_lst, opSub_int, opMul_int, opDiv_int, opMod_int, opLt_int, opLe_int, opGt_int, opGe_int, opEq_int, opNe_int, opIx_tup, opIx_lst, at0, at1, at2, at3, at4, fInt_int, fLen_tup, fLen_lst, fLen_dct, fLen_str, gvName_ap, tYesV_ap, gvSub_var, Option.bind_some, Option.map_some, get0, getS, set0, setS, List.getElem?_cons_zero, List.getElem?_cons_succ, List.set_cons_zero, List.set_cons_succ, List.map_cons, List.map_nil, List.length_cons, List.length_nil, List.replicate_succ, List.replicate_zero, List.cons_append, List.nil_append, List.append_nil, Nat.reduceAdd, Nat.reduceSub, Int.reduceSub, Int.reduceNeg, Int.reduceAdd, Nat.reduceMul, Nat.reduceLeDiff, LN, true_and, and_true, if_true, if_false, Bool.not_true, Bool.not_false, Bool.false_eq_true, reduceIte, decide_true, decide_false]) rfl hc (by omega) fun S5 h5 => q S5 h5
theorem erN_n {a b : D} (h : erN a b none = none) (o : Er) : erN a b o = o := by
  unfold erN ckE at h ⊢
  cases h1 : pName a <;> cases h2 : pName b <;> simp_all
theorem erN_s {a b : D} {x : Nat × D} (h : erN a b none = some x) (o : Er) : erN a b o = some x := by
  unfold erN ckE at h ⊢
  cases h1 : pName a <;> cases h2 : pName b <;> simp_all
theorem erT_n {a b : D} (h : erT a b none = none) (o : Er) : erT a b o = o := by
  unfold erT ckE at h ⊢
  cases h1 : pNum 1 99 a <;> cases h2 : pNum 0 999 b <;> simp_all
theorem erT_s {a b : D} {x : Nat × D} (h : erT a b none = some x) (o : Er) : erT a b o = some x := by
  unfold erT ckE at h ⊢
  cases h1 : pNum 1 99 a <;> cases h2 : pNum 0 999 b <;> simp_all
theorem erT_price {a b : D} (h : erT a b none = none) : ∃ i : Int, b = .int i := by
  unfold erT ckE at h
  cases h1 : pNum 1 99 a with
  | false => simp [h1] at h
  | true =>
    cases h2 : pNum 0 999 b with
    | false => simp [h1, h2] at h
    | true => cases b <;> first | exact ⟨_, rfl⟩ | cases h2
theorem pStd_shape {d : D} (h : pStd d = true) : ∃ (x : D) (i : Int), d = .tup [x, .int i] := by
  cases d with
  | tup xs =>
    rcases xs with _ | ⟨a, _ | ⟨b, _ | ⟨c, r⟩⟩⟩
    · cases h
    · cases h
    · have h : (pName a && pNum 0 8 b) = true := h
      rw [Bool.and_eq_true] at h
      cases b <;> first | exact ⟨_, _, rfl⟩ | (have := h.2; cases this)
    · cases h
  | _ => cases h
def Fin (o : Er) (S : Sto) (l c : Nat) (K : D → Sto → Prop) (E : Exc → Sto → Prop) : Prop := match o with
  | none => ∀ S', Insk S l c 20 S' → K .non S'
  | some (cd, v) => E (excD cd (cdS cd) ["value"] [v]) S
theorem fin_s {o : Er} {cd : Nat} {v : D} {S : Sto} {l c : Nat} {K : D → Sto → Prop} {E : Exc → Sto → Prop} (h : Fin o S l c K E) (e : o = some (cd, v)) : E (excD cd (cdS cd) ["value"] [v]) S := by
  subst e; exact h
theorem fin_n {o : Er} {S : Sto} {l c : Nat} {K : D → Sto → Prop} {E : Exc → Sto → Prop} (h : Fin o S l c K E) (e : o = none) {S' : Sto} (hI : Insk S l c 20 S') : K .non S' := by
  subst e; exact h S' hI
theorem cdS1 : cdS 1 = "InvalidName" := rfl
theorem cdS2 : cdS 2 = "InvalidNumber" := rfl
theorem cdS3 : cdS 3 = "InvalidStanding" := rfl
theorem work_on {S : Sto} {l : Nat} {a b s t h p r : D} {K : D → Sto → Prop} {E : Exc → Sto → Prop} (hl : S[l]? = some (.ins 6 [])) (ha : vlB a = true) (hb : vlB b = true) (hs : vlB s = true) (ht : vlB t = true) (hh : vlB h = true) (hp : vlB p = true) (hr : vlB r = true)
    (q : Fin (erW a b s t h p r) S l 6 K E) : (m_Work_init [.loc l, a, b, s, t, h, p, r] S).oo K E := by
  unfold m_Work_init fb_Work_init
  rw [on_runB]
  unfold erW at q
  refine seq_i fun R hR => ?_
  cases e1 : erN a b none with
  | some x =>
    obtain ⟨c, v⟩ := x
    rw [erN_s e1] at q
    simp only [von_nil, von_pass, von_break, von_cont, von_retN, von_expr, von_ret, von_if, von_set, von_asg, von_par2, von_par3, von_for, von_var, von_C, von_aNil, von_aCons, von_tup, von_lst, von_lstM, von_opE, von_tV, von_chain, von_tAn, von_tOr, von_tNo, von_and, von_or, von_not, von_eIf, von_call, von_callD, von_CB, von_isi, von_isis, von_pNo, von_pSo, von_sl, von_fmt, von_joined, von_runJ0, von_runJ1, von_M1, von_append, von_frz, von_iOf, von_iR1, von_iR2, von_lc, von_dct, so_some, so_none, so_bind, so_map, so_ite, on_ok, on_exc, on_bad, on_of, on_ite, on_iteB, on_runB, son_ite, son_nx, son_rt, son_bk, son_ct, son_exc, son_bad, po_nx, po_rt, po_bk, po_ct, po_ex, Po.fn, start0_eq, asB_bl, der_non, der_bl, der_int, der_str, der_tup, der_lst, der_dct, opAdd_int, opAdd_str, opAdd_tup, opAdd_lst, opSub_int, opMul_int, opDiv_int, opMod_int, opLt_int, opLe_int, opGt_int, opGe_int, opEq_int, opNe_int, opIx_tup, opIx_lst, at0, at1, at2, at3, at4, fInt_int, fLen_tup, fLen_lst, fLen_dct, fLen_str, gvName_ap, tYesV_ap, gvSub_var, Option.bind_some, Option.map_some, get0, getS, set0, setS, List.getElem?_cons_zero, List.getElem?_cons_succ, List.set_cons_zero, List.set_cons_succ, List.map_cons, List.map_nil, List.length_cons, List.length_nil, List.replicate_succ, List.replicate_zero, List.cons_append, List.nil_append, List.append_nil, Nat.reduceAdd, Nat.reduceSub, Int.reduceSub, Int.reduceNeg, Int.reduceAdd, Nat.reduceMul, Nat.reduceLeDiff, LN, true_and, and_true, if_true, if_false, Bool.not_true, Bool.not_false, Bool.false_eq_true, reduceIte, decide_true, decide_false, names_chk ha hb, e1, toR]
    exact q
  | none =>
    rw [erN_n e1] at q
    simp only [von_nil, von_pass, von_break, von_cont, von_retN, von_expr, von_ret, von_if, von_set, von_asg, von_par2, von_par3, von_for, von_var, von_C, von_aNil, von_aCons, von_tup, von_lst, von_lstM, von_opE, von_tV, von_chain, von_tAn, von_tOr, von_tNo, von_and, von_or, von_not, von_eIf, von_call, von_callD, von_CB, von_isi, von_isis, von_pNo, von_pSo, von_sl, von_fmt, von_joined, von_runJ0, von_runJ1, von_M1, von_append, von_frz, von_iOf, von_iR1, von_iR2, von_lc, von_dct, so_some, so_none, so_bind, so_map, so_ite, on_ok, on_exc, on_bad, on_of, on_ite, on_iteB, on_runB, son_ite, son_nx, son_rt, son_bk, son_ct, son_exc, son_bad, po_nx, po_rt, po_bk, po_ct, po_ex, Po.fn, start0_eq, asB_bl, der_non, der_bl, der_int, der_str, der_tup, der_lst, der_dct, opAdd_int, opAdd_str, opAdd_tup, opAdd_lst, opSub_int, opMul_int, opDiv_int, opMod_int, opLt_int, opLe_int, opGt_int, opGe_int, opEq_int, opNe_int, opIx_tup, opIx_lst, at0, at1, at2, at3, at4, fInt_int, fLen_tup, fLen_lst, fLen_dct, fLen_str, gvName_ap, tYesV_ap, gvSub_var, Option.bind_some, Option.map_some, get0, getS, set0, setS, List.getElem?_cons_zero, List.getElem?_cons_succ, List.set_cons_zero, List.set_cons_succ, List.map_cons, List.map_nil, List.length_cons, List.length_nil, List.replicate_succ, List.replicate_zero, List.cons_append, List.nil_append, List.append_nil, Nat.reduceAdd, Nat.reduceSub, Int.reduceSub, Int.reduceNeg, Int.reduceAdd, Nat.reduceMul, Nat.reduceLeDiff, LN, true_and, and_true, if_true, if_false, Bool.not_true, Bool.not_false, Bool.false_eq_true, reduceIte, decide_true, decide_false, names_chk ha hb, e1, toR]
    refine hR _ _ ?_
    clear hR R
    refine seq_i fun R hR => ?_
    cases e2 : pStd s with
    | false =>
      rw [ck_f e2] at q
      simp only [von_nil, von_pass, von_break, von_cont, von_retN, von_expr, von_ret, von_if, von_set, von_asg, von_par2, von_par3, von_for, von_var, von_C, von_aNil, von_aCons, von_tup, von_lst, von_lstM, von_opE, von_tV, von_chain, von_tAn, von_tOr, von_tNo, von_and, von_or, von_not, von_eIf, von_call, von_callD, von_CB, von_isi, von_isis, von_pNo, von_pSo, von_sl, von_fmt, von_joined, von_runJ0, von_runJ1, von_M1, von_append, von_frz, von_iOf, von_iR1, von_iR2, von_lc, von_dct, so_some, so_none, so_bind, so_map, so_ite, on_ok, on_exc, on_bad, on_of, on_ite, on_iteB, on_runB, son_ite, son_nx, son_rt, son_bk, son_ct, son_exc, son_bad, po_nx, po_rt, po_bk, po_ct, po_ex, Po.fn, start0_eq, asB_bl, der_non, der_bl, der_int, der_str, der_tup, der_lst, der_dct, opAdd_int, opAdd_str, opAdd_tup, opAdd_lst, opSub_int, opMul_int, opDiv_int, opMod_int, opLt_int, opLe_int, opGt_int, opGe_int, opEq_int, opNe_int, opIx_tup, opIx_lst, at0, at1, at2, at3, at4, fInt_int, fLen_tup, fLen_lst, fLen_dct, fLen_str, gvName_ap, tYesV_ap, gvSub_var, Option.bind_some, Option.map_some, get0, getS, set0, setS, List.getElem?_cons_zero, List.getElem?_cons_succ, List.set_cons_zero, List.set_cons_succ, List.map_cons, List.map_nil, List.length_cons, List.length_nil, List.replicate_succ, List.replicate_zero, List.cons_append, List.nil_append, List.append_nil, Nat.reduceAdd, Nat.reduceSub, Int.reduceSub, Int.reduceNeg, Int.reduceAdd, Nat.reduceMul, Nat.reduceLeDiff, LN, true_and, and_true, if_true, if_false, Bool.not_true, Bool.not_false, Bool.false_eq_true, reduceIte, decide_true, decide_false, std_eq (vlB_Val hs), e2, von_raise, msg1, vlB_msg hs]
      exact q
    | true =>
      rw [ck_t e2] at q
      simp only [von_nil, von_pass, von_break, von_cont, von_retN, von_expr, von_ret, von_if, von_set, von_asg, von_par2, von_par3, von_for, von_var, von_C, von_aNil, von_aCons, von_tup, von_lst, von_lstM, von_opE, von_tV, von_chain, von_tAn, von_tOr, von_tNo, von_and, von_or, von_not, von_eIf, von_call, von_callD, von_CB, von_isi, von_isis, von_pNo, von_pSo, von_sl, von_fmt, von_joined, von_runJ0, von_runJ1, von_M1, von_append, von_frz, von_iOf, von_iR1, von_iR2, von_lc, von_dct, so_some, so_none, so_bind, so_map, so_ite, on_ok, on_exc, on_bad, on_of, on_ite, on_iteB, on_runB, son_ite, son_nx, son_rt, son_bk, son_ct, son_exc, son_bad, po_nx, po_rt, po_bk, po_ct, po_ex, Po.fn, start0_eq, asB_bl, der_non, der_bl, der_int, der_str, der_tup, der_lst, der_dct, opAdd_int, opAdd_str, opAdd_tup, opAdd_lst, opSub_int, opMul_int, opDiv_int, opMod_int, opLt_int, opLe_int, opGt_int, opGe_int, opEq_int, opNe_int, opIx_tup, opIx_lst, at0, at1, at2, at3, at4, fInt_int, fLen_tup, fLen_lst, fLen_dct, fLen_str, gvName_ap, tYesV_ap, gvSub_var, Option.bind_some, Option.map_some, get0, getS, set0, setS, List.getElem?_cons_zero, List.getElem?_cons_succ, List.set_cons_zero, List.set_cons_succ, List.map_cons, List.map_nil, List.length_cons, List.length_nil, List.replicate_succ, List.replicate_zero, List.cons_append, List.nil_append, List.append_nil, Nat.reduceAdd, Nat.reduceSub, Int.reduceSub, Int.reduceNeg, Int.reduceAdd, Nat.reduceMul, Nat.reduceLeDiff, LN, true_and, and_true, if_true, if_false, Bool.not_true, Bool.not_false, Bool.false_eq_true, reduceIte, decide_true, decide_false, std_eq (vlB_Val hs), e2]
      refine hR _ _ ?_
      clear hR R
      obtain ⟨s1, j, rfl⟩ := pStd_shape e2
      refine seq_i fun R hR => ?_
      cases e3 : pStd t with
      | false =>
        rw [e3, ck_f (Bool.false_and _)] at q
        simp only [von_nil, von_pass, von_break, von_cont, von_retN, von_expr, von_ret, von_if, von_set, von_asg, von_par2, von_par3, von_for, von_var, von_C, von_aNil, von_aCons, von_tup, von_lst, von_lstM, von_opE, von_tV, von_chain, von_tAn, von_tOr, von_tNo, von_and, von_or, von_not, von_eIf, von_call, von_callD, von_CB, von_isi, von_isis, von_pNo, von_pSo, von_sl, von_fmt, von_joined, von_runJ0, von_runJ1, von_M1, von_append, von_frz, von_iOf, von_iR1, von_iR2, von_lc, von_dct, so_some, so_none, so_bind, so_map, so_ite, on_ok, on_exc, on_bad, on_of, on_ite, on_iteB, on_runB, son_ite, son_nx, son_rt, son_bk, son_ct, son_exc, son_bad, po_nx, po_rt, po_bk, po_ct, po_ex, Po.fn, start0_eq, asB_bl, der_non, der_bl, der_int, der_str, der_tup, der_lst, der_dct, opAdd_int, opAdd_str, opAdd_tup, opAdd_lst, opSub_int, opMul_int, opDiv_int, opMod_int, opLt_int, opLe_int, opGt_int, opGe_int, opEq_int, opNe_int, opIx_tup, opIx_lst, at0, at1, at2, at3, at4, fInt_int, fLen_tup, fLen_lst, fLen_dct, fLen_str, gvName_ap, tYesV_ap, gvSub_var, Option.bind_some, Option.map_some, get0, getS, set0, setS, List.getElem?_cons_zero, List.getElem?_cons_succ, List.set_cons_zero, List.set_cons_succ, List.map_cons, List.map_nil, List.length_cons, List.length_nil, List.replicate_succ, List.replicate_zero, List.cons_append, List.nil_append, List.append_nil, Nat.reduceAdd, Nat.reduceSub, Int.reduceSub, Int.reduceNeg, Int.reduceAdd, Nat.reduceMul, Nat.reduceLeDiff, LN, true_and, and_true, if_true, if_false, Bool.not_true, Bool.not_false, Bool.false_eq_true, reduceIte, decide_true, decide_false, std_eq (vlB_Val ht), e3, von_raise, msg1, vlB_msg ht]
        exact q
      | true =>
        obtain ⟨t1, i, rfl⟩ := pStd_shape e3
        have eh : hourOf (.tup [t1, .int i]) = i := rfl
        have ej : hourOf (.tup [s1, .int j]) = j := rfl
        rw [e3, eh, ej, Bool.true_and] at q
        by_cases hij : i ≤ j
        · rw [ck_f (by simp [hij])] at q
          simp only [von_nil, von_pass, von_break, von_cont, von_retN, von_expr, von_ret, von_if, von_set, von_asg, von_par2, von_par3, von_for, von_var, von_C, von_aNil, von_aCons, von_tup, von_lst, von_lstM, von_opE, von_tV, von_chain, von_tAn, von_tOr, von_tNo, von_and, von_or, von_not, von_eIf, von_call, von_callD, von_CB, von_isi, von_isis, von_pNo, von_pSo, von_sl, von_fmt, von_joined, von_runJ0, von_runJ1, von_M1, von_append, von_frz, von_iOf, von_iR1, von_iR2, von_lc, von_dct, so_some, so_none, so_bind, so_map, so_ite, on_ok, on_exc, on_bad, on_of, on_ite, on_iteB, on_runB, son_ite, son_nx, son_rt, son_bk, son_ct, son_exc, son_bad, po_nx, po_rt, po_bk, po_ct, po_ex, Po.fn, start0_eq, asB_bl, der_non, der_bl, der_int, der_str, der_tup, der_lst, der_dct, opAdd_int, opAdd_str, opAdd_tup, opAdd_lst, opSub_int, opMul_int, opDiv_int, opMod_int, opLt_int, opLe_int, opGt_int, opGe_int, opEq_int, opNe_int, opIx_tup, opIx_lst, at0, at1, at2, at3, at4, fInt_int, fLen_tup, fLen_lst, fLen_dct, fLen_str, gvName_ap, tYesV_ap, gvSub_var, Option.bind_some, Option.map_some, get0, getS, set0, setS, List.getElem?_cons_zero, List.getElem?_cons_succ, List.set_cons_zero, List.set_cons_succ, List.map_cons, List.map_nil, List.length_cons, List.length_nil, List.replicate_succ, List.replicate_zero, List.cons_append, List.nil_append, List.append_nil, Nat.reduceAdd, Nat.reduceSub, Int.reduceSub, Int.reduceNeg, Int.reduceAdd, Nat.reduceMul, Nat.reduceLeDiff, LN, true_and, and_true, if_true, if_false, Bool.not_true, Bool.not_false, Bool.false_eq_true, reduceIte, decide_true, decide_false, std_eq (vlB_Val ht), e3, von_raise, msg1, vlB_msg ht, hij]
          exact q
        · rw [ck_t (by simp [hij])] at q
          simp only [von_nil, von_pass, von_break, von_cont, von_retN, von_expr, von_ret, von_if, von_set, von_asg, von_par2, von_par3, von_for, von_var, von_C, von_aNil, von_aCons, von_tup, von_lst, von_lstM, von_opE, von_tV, von_chain, von_tAn, von_tOr, von_tNo, von_and, von_or, von_not, von_eIf, von_call, von_callD, von_CB, von_isi, von_isis, von_pNo, von_pSo, von_sl, von_fmt, von_joined, von_runJ0, von_runJ1, von_M1, von_append, von_frz, von_iOf, von_iR1, von_iR2, von_lc, von_dct, so_some, so_none, so_bind, so_map, so_ite, on_ok, on_exc, on_bad, on_of, on_ite, on_iteB, on_runB, son_ite, son_nx, son_rt, son_bk, son_ct, son_exc, son_bad, po_nx, po_rt, po_bk, po_ct, po_ex, Po.fn, start0_eq, asB_bl, der_non, der_bl, der_int, der_str, der_tup, der_lst, der_dct, opAdd_int, opAdd_str, opAdd_tup, opAdd_lst, opSub_int, opMul_int, opDiv_int, opMod_int, opLt_int, opLe_int, opGt_int, opGe_int, opEq_int, opNe_int, opIx_tup, opIx_lst, at0, at1, at2, at3, at4, fInt_int, fLen_tup, fLen_lst, fLen_dct, fLen_str, gvName_ap, tYesV_ap, gvSub_var, Option.bind_some, Option.map_some, get0, getS, set0, setS, List.getElem?_cons_zero, List.getElem?_cons_succ, List.set_cons_zero, List.set_cons_succ, List.map_cons, List.map_nil, List.length_cons, List.length_nil, List.replicate_succ, List.replicate_zero, List.cons_append, List.nil_append, List.append_nil, Nat.reduceAdd, Nat.reduceSub, Int.reduceSub, Int.reduceNeg, Int.reduceAdd, Nat.reduceMul, Nat.reduceLeDiff, LN, true_and, and_true, if_true, if_false, Bool.not_true, Bool.not_false, Bool.false_eq_true, reduceIte, decide_true, decide_false, std_eq (vlB_Val ht), e3, hij]
          refine hR _ _ ?_
          clear hR R
          refine seq_i fun R hR => ?_
          cases e4 : erT h p none with
          | some x =>
            obtain ⟨c, v⟩ := x
            rw [erT_s e4] at q
            simp only [von_nil, von_pass, von_break, von_cont, von_retN, von_expr, von_ret, von_if, von_set, von_asg, von_par2, von_par3, von_for, von_var, von_C, von_aNil, von_aCons, von_tup, von_lst, von_lstM, von_opE, von_tV, von_chain, von_tAn, von_tOr, von_tNo, von_and, von_or, von_not, von_eIf, von_call, von_callD, von_CB, von_isi, von_isis, von_pNo, von_pSo, von_sl, von_fmt, von_joined, von_runJ0, von_runJ1, von_M1, von_append, von_frz, von_iOf, von_iR1, von_iR2, von_lc, von_dct, so_some, so_none, so_bind, so_map, so_ite, on_ok, on_exc, on_bad, on_of, on_ite, on_iteB, on_runB, son_ite, son_nx, son_rt, son_bk, son_ct, son_exc, son_bad, po_nx, po_rt, po_bk, po_ct, po_ex, Po.fn, start0_eq, asB_bl, der_non, der_bl, der_int, der_str, der_tup, der_lst, der_dct, opAdd_int, opAdd_str, opAdd_tup, opAdd_lst, opSub_int, opMul_int, opDiv_int, opMod_int, opLt_int, opLe_int, opGt_int, opGe_int, opEq_int, opNe_int, opIx_tup, opIx_lst, at0, at1, at2, at3, at4, fInt_int, fLen_tup, fLen_lst, fLen_dct, fLen_str, gvName_ap, tYesV_ap, gvSub_var, Option.bind_some, Option.map_some, get0, getS, set0, setS, List.getElem?_cons_zero, List.getElem?_cons_succ, List.set_cons_zero, List.set_cons_succ, List.map_cons, List.map_nil, List.length_cons, List.length_nil, List.replicate_succ, List.replicate_zero, List.cons_append, List.nil_append, List.append_nil, Nat.reduceAdd, Nat.reduceSub, Int.reduceSub, Int.reduceNeg, Int.reduceAdd, Nat.reduceMul, Nat.reduceLeDiff, LN, true_and, and_true, if_true, if_false, Bool.not_true, Bool.not_false, Bool.false_eq_true, reduceIte, decide_true, decide_false, terms_chk hh hp, e4, toR]
            exact q
          | none =>
            rw [erT_n e4] at q
            obtain ⟨pi, rfl⟩ := erT_price e4
            simp only [von_nil, von_pass, von_break, von_cont, von_retN, von_expr, von_ret, von_if, von_set, von_asg, von_par2, von_par3, von_for, von_var, von_C, von_aNil, von_aCons, von_tup, von_lst, von_lstM, von_opE, von_tV, von_chain, von_tAn, von_tOr, von_tNo, von_and, von_or, von_not, von_eIf, von_call, von_callD, von_CB, von_isi, von_isis, von_pNo, von_pSo, von_sl, von_fmt, von_joined, von_runJ0, von_runJ1, von_M1, von_append, von_frz, von_iOf, von_iR1, von_iR2, von_lc, von_dct, so_some, so_none, so_bind, so_map, so_ite, on_ok, on_exc, on_bad, on_of, on_ite, on_iteB, on_runB, son_ite, son_nx, son_rt, son_bk, son_ct, son_exc, son_bad, po_nx, po_rt, po_bk, po_ct, po_ex, Po.fn, start0_eq, asB_bl, der_non, der_bl, der_int, der_str, der_tup, der_lst, der_dct, opAdd_int, opAdd_str, opAdd_tup, opAdd_lst, opSub_int, opMul_int, opDiv_int, opMod_int, opLt_int, opLe_int, opGt_int, opGe_int, opEq_int, opNe_int, opIx_tup, opIx_lst, at0, at1, at2, at3, at4, fInt_int, fLen_tup, fLen_lst, fLen_dct, fLen_str, gvName_ap, tYesV_ap, gvSub_var, Option.bind_some, Option.map_some, get0, getS, set0, setS, List.getElem?_cons_zero, List.getElem?_cons_succ, List.set_cons_zero, List.set_cons_succ, List.map_cons, List.map_nil, List.length_cons, List.length_nil, List.replicate_succ, List.replicate_zero, List.cons_append, List.nil_append, List.append_nil, Nat.reduceAdd, Nat.reduceSub, Int.reduceSub, Int.reduceNeg, Int.reduceAdd, Nat.reduceMul, Nat.reduceLeDiff, LN, true_and, and_true, if_true, if_false, Bool.not_true, Bool.not_false, Bool.false_eq_true, reduceIte, decide_true, decide_false, terms_chk hh hp, e4, toR]
            refine hR _ _ ?_
            clear hR R
            refine seq_i fun R hR => ?_
            cases e5 : erR r none with
            | some x =>
              obtain ⟨c, v⟩ := x
              rw [e5] at q
              simp only [von_nil, von_pass, von_break, von_cont, von_retN, von_expr, von_ret, von_if, von_set, von_asg, von_par2, von_par3, von_for, von_var, von_C, von_aNil, von_aCons, von_tup, von_lst, von_lstM, von_opE, von_tV, von_chain, von_tAn, von_tOr, von_tNo, von_and, von_or, von_not, von_eIf, von_call, von_callD, von_CB, von_isi, von_isis, von_pNo, von_pSo, von_sl, von_fmt, von_joined, von_runJ0, von_runJ1, von_M1, von_append, von_frz, von_iOf, von_iR1, von_iR2, von_lc, von_dct, so_some, so_none, so_bind, so_map, so_ite, on_ok, on_exc, on_bad, on_of, on_ite, on_iteB, on_runB, son_ite, son_nx, son_rt, son_bk, son_ct, son_exc, son_bad, po_nx, po_rt, po_bk, po_ct, po_ex, Po.fn, start0_eq, asB_bl, der_non, der_bl, der_int, der_str, der_tup, der_lst, der_dct, opAdd_int, opAdd_str, opAdd_tup, opAdd_lst, opSub_int, opMul_int, opDiv_int, opMod_int, opLt_int, opLe_int, opGt_int, opGe_int, opEq_int, opNe_int, opIx_tup, opIx_lst, at0, at1, at2, at3, at4, fInt_int, fLen_tup, fLen_lst, fLen_dct, fLen_str, gvName_ap, tYesV_ap, gvSub_var, Option.bind_some, Option.map_some, get0, getS, set0, setS, List.getElem?_cons_zero, List.getElem?_cons_succ, List.set_cons_zero, List.set_cons_succ, List.map_cons, List.map_nil, List.length_cons, List.length_nil, List.replicate_succ, List.replicate_zero, List.cons_append, List.nil_append, List.append_nil, Nat.reduceAdd, Nat.reduceSub, Int.reduceSub, Int.reduceNeg, Int.reduceAdd, Nat.reduceMul, Nat.reduceLeDiff, LN, true_and, and_true, if_true, if_false, Bool.not_true, Bool.not_false, Bool.false_eq_true, reduceIte, decide_true, decide_false, rank_chk hr, e5, toR]
              exact q
            | none =>
              rw [e5] at q
              simp only [von_nil, von_pass, von_break, von_cont, von_retN, von_expr, von_ret, von_if, von_set, von_asg, von_par2, von_par3, von_for, von_var, von_C, von_aNil, von_aCons, von_tup, von_lst, von_lstM, von_opE, von_tV, von_chain, von_tAn, von_tOr, von_tNo, von_and, von_or, von_not, von_eIf, von_call, von_callD, von_CB, von_isi, von_isis, von_pNo, von_pSo, von_sl, von_fmt, von_joined, von_runJ0, von_runJ1, von_M1, von_append, von_frz, von_iOf, von_iR1, von_iR2, von_lc, von_dct, so_some, so_none, so_bind, so_map, so_ite, on_ok, on_exc, on_bad, on_of, on_ite, on_iteB, on_runB, son_ite, son_nx, son_rt, son_bk, son_ct, son_exc, son_bad, po_nx, po_rt, po_bk, po_ct, po_ex, Po.fn, start0_eq, asB_bl, der_non, der_bl, der_int, der_str, der_tup, der_lst, der_dct, opAdd_int, opAdd_str, opAdd_tup, opAdd_lst, opSub_int, opMul_int, opDiv_int, opMod_int, opLt_int, opLe_int, opGt_int, opGe_int, opEq_int, opNe_int, opIx_tup, opIx_lst, at0, at1, at2, at3, at4, fInt_int, fLen_tup, fLen_lst, fLen_dct, fLen_str, gvName_ap, tYesV_ap, gvSub_var, Option.bind_some, Option.map_some, get0, getS, set0, setS, List.getElem?_cons_zero, List.getElem?_cons_succ, List.set_cons_zero, List.set_cons_succ, List.map_cons, List.map_nil, List.length_cons, List.length_nil, List.replicate_succ, List.replicate_zero, List.cons_append, List.nil_append, List.append_nil, Nat.reduceAdd, Nat.reduceSub, Int.reduceSub, Int.reduceNeg, Int.reduceAdd, Nat.reduceMul, Nat.reduceLeDiff, LN, true_and, and_true, if_true, if_false, Bool.not_true, Bool.not_false, Bool.false_eq_true, reduceIte, decide_true, decide_false, rank_chk hr, e5, toR]
              refine hR _ _ ?_
              clear hR R
              have hI := insk0 hl
              refine seq_i fun R hR => ?_
              simp only [von_nil, von_pass, von_break, von_cont, von_retN, von_expr, von_ret, von_if, von_set, von_asg, von_par2, von_par3, von_for, von_var, von_C, von_aNil, von_aCons, von_tup, von_lst, von_lstM, von_opE, von_tV, von_chain, von_tAn, von_tOr, von_tNo, von_and, von_or, von_not, von_eIf, von_call, von_callD, von_CB, von_isi, von_isis, von_pNo, von_pSo, von_sl, von_fmt, von_joined, von_runJ0, von_runJ1, von_M1, von_append, von_frz, von_iOf, von_iR1, von_iR2, von_lc, von_dct, so_some, so_none, so_bind, so_map, so_ite, on_ok, on_exc, on_bad, on_of, on_ite, on_iteB, on_runB, son_ite, son_nx, son_rt, son_bk, son_ct, son_exc, son_bad, po_nx, po_rt, po_bk, po_ct, po_ex, Po.fn, start0_eq, asB_bl, der_non, der_bl, der_int, der_str, der_tup, der_lst, der_dct, opAdd_int, opAdd_str, opAdd_tup, opAdd_lst, opSub_int, opMul_int, opDiv_int, opMod_int, opLt_int, opLe_int, opGt_int, opGe_int, opEq_int, opNe_int, opIx_tup, opIx_lst, at0, at1, at2, at3, at4, fInt_int, fLen_tup, fLen_lst, fLen_dct, fLen_str, gvName_ap, tYesV_ap, gvSub_var, Option.bind_some, Option.map_some, get0, getS, set0, setS, List.getElem?_cons_zero, List.getElem?_cons_succ, List.set_cons_zero, List.set_cons_succ, List.map_cons, List.map_nil, List.length_cons, List.length_nil, List.replicate_succ, List.replicate_zero, List.cons_append, List.nil_append, List.append_nil, Nat.reduceAdd, Nat.reduceSub, Int.reduceSub, Int.reduceNeg, Int.reduceAdd, Nat.reduceMul, Nat.reduceLeDiff, LN, true_and, and_true, if_true, if_false, Bool.not_true, Bool.not_false, Bool.false_eq_true, reduceIte, decide_true, decide_false]
              refine asking_on hI rfl (by omega) fun S1 h1 => hR _ _ ?_
              clear hR R
              refine seq_i fun R hR => attr_step h1 (by simp only [von_nil, von_pass, von_break, von_cont, von_retN, von_expr, von_ret, von_if, von_set, von_asg, von_par2, von_par3, von_for, von_var, von_C, von_aNil, von_aCons, von_tup, von_lst, von_lstM, von_opE, von_tV, von_chain, von_tAn, von_tOr, von_tNo, von_and, von_or, von_not, von_eIf, von_call, von_callD, von_CB, von_isi, von_isis, von_pNo, von_pSo, von_sl, von_fmt, von_joined, von_runJ0, von_runJ1, von_M1, von_append, von_frz, von_iOf, von_iR1, von_iR2, von_lc, von_dct, so_some, so_none, so_bind, so_map, so_ite, on_ok, on_exc, on_bad, on_of, on_ite, on_iteB, on_runB, son_ite, son_nx, son_rt, son_bk, son_ct, son_exc, son_bad, po_nx, po_rt, po_bk, po_ct, po_ex, Po.fn, start0_eq, asB_bl, der_non, der_bl, der_int, der_str, der_tup, der_lst, der_dct, opAdd_int, opAdd_str, opAdd_tup, opAdd_lst, opSub_int, opMul_int, opDiv_int, opMod_int, opLt_int, opLe_int, opGt_int, opGe_int, opEq_int, opNe_int, opIx_tup, opIx_lst, at0, at1, at2, at3, at4, fInt_int, fLen_tup, fLen_lst, fLen_dct, fLen_str, gvName_ap, tYesV_ap, gvSub_var, Option.bind_some, Option.map_some, get0, getS, set0, setS, List.getElem?_cons_zero, List.getElem?_cons_succ, List.set_cons_zero, List.set_cons_succ, List.map_cons, List.map_nil, List.length_cons, List.length_nil, List.replicate_succ, List.replicate_zero, List.cons_append, List.nil_append, List.append_nil, Nat.reduceAdd, Nat.reduceSub, Int.reduceSub, Int.reduceNeg, Int.reduceAdd, Nat.reduceMul, Nat.reduceLeDiff, LN, true_and, and_true, if_true, if_false, Bool.not_true, Bool.not_false, Bool.false_eq_true, reduceIte, decide_true, decide_false]) rfl rfl (by omega) fun S2 h2 => hR _ _ ?_
              clear hR R
              refine seq_i fun R hR => attr_step h2 (by simp only [von_nil, von_pass, von_break, von_cont, von_retN, von_expr, von_ret, von_if, von_set, von_asg, von_par2, von_par3, von_for, von_var, von_C, von_aNil, von_aCons, von_tup, von_lst, von_lstM, von_opE, von_tV, von_chain, von_tAn, von_tOr, von_tNo, von_and, von_or, von_not, von_eIf, von_call, von_callD, von_CB, von_isi, von_isis, von_pNo, von_pSo, von_sl, von_fmt, von_joined, von_runJ0, von_runJ1, von_M1, von_append, von_frz, von_iOf, von_iR1, von_iR2, von_lc, von_dct, so_some, so_none, so_bind, so_map, so_ite, on_ok, on_exc, on_bad, on_of, on_ite, on_iteB, on_runB, son_ite, son_nx, son_rt, son_bk, son_ct, son_exc, son_bad, po_nx, po_rt, po_bk, po_ct, po_ex, Po.fn, start0_eq, asB_bl, der_non, der_bl, der_int, der_str, der_tup, der_lst, der_dct, opAdd_int, opAdd_str, opAdd_tup, opAdd_lst, opSub_int, opMul_int, opDiv_int, opMod_int, opLt_int, opLe_int, opGt_int, opGe_int, opEq_int, opNe_int, opIx_tup, opIx_lst, at0, at1, at2, at3, at4, fInt_int, fLen_tup, fLen_lst, fLen_dct, fLen_str, gvName_ap, tYesV_ap, gvSub_var, Option.bind_some, Option.map_some, get0, getS, set0, setS, List.getElem?_cons_zero, List.getElem?_cons_succ, List.set_cons_zero, List.set_cons_succ, List.map_cons, List.map_nil, List.length_cons, List.length_nil, List.replicate_succ, List.replicate_zero, List.cons_append, List.nil_append, List.append_nil, Nat.reduceAdd, Nat.reduceSub, Int.reduceSub, Int.reduceNeg, Int.reduceAdd, Nat.reduceMul, Nat.reduceLeDiff, LN, true_and, and_true, if_true, if_false, Bool.not_true, Bool.not_false, Bool.false_eq_true, reduceIte, decide_true, decide_false]) rfl rfl (by omega) fun S3 h3 => hR _ _ ?_
              clear hR R
              refine seq_i fun R hR => attr_step h3 (by simp only [von_nil, von_pass, von_break, von_cont, von_retN, von_expr, von_ret, von_if, von_set, von_asg, von_par2, von_par3, von_for, von_var, von_C, von_aNil, von_aCons, von_tup, von_lst, von_lstM, von_opE, von_tV, von_chain, von_tAn, von_tOr, von_tNo, von_and, von_or, von_not, von_eIf, von_call, von_callD, von_CB, von_isi, von_isis, von_pNo, von_pSo, von_sl, von_fmt, von_joined, von_runJ0, von_runJ1, von_M1, von_append, von_frz, von_iOf, von_iR1, von_iR2, von_lc, von_dct, so_some, so_none, so_bind, so_map, so_ite, on_ok, on_exc, on_bad, on_of, on_ite, on_iteB, on_runB, son_ite, son_nx, son_rt, son_bk, son_ct, son_exc, son_bad, po_nx, po_rt, po_bk, po_ct, po_ex, Po.fn, start0_eq, asB_bl, der_non, der_bl, der_int, der_str, der_tup, der_lst, der_dct, opAdd_int, opAdd_str, opAdd_tup, opAdd_lst, opSub_int, opMul_int, opDiv_int, opMod_int, opLt_int, opLe_int, opGt_int, opGe_int, opEq_int, opNe_int, opIx_tup, opIx_lst, at0, at1, at2, at3, at4, fInt_int, fLen_tup, fLen_lst, fLen_dct, fLen_str, gvName_ap, tYesV_ap, gvSub_var, Option.bind_some, Option.map_some, get0, getS, set0, setS, List.getElem?_cons_zero, List.getElem?_cons_succ, List.set_cons_zero, List.set_cons_succ, List.map_cons, List.map_nil, List.length_cons, List.length_nil, List.replicate_succ, List.replicate_zero, List.cons_append, List.nil_append, List.append_nil, Nat.reduceAdd, Nat.reduceSub, Int.reduceSub, Int.reduceNeg, Int.reduceAdd, Nat.reduceMul, Nat.reduceLeDiff, LN, true_and, and_true, if_true, if_false, Bool.not_true, Bool.not_false, Bool.false_eq_true, reduceIte, decide_true, decide_false]) rfl rfl (by omega) fun S4 h4 => hR _ _ ?_
              clear hR R
              refine seq_i fun R hR => attr_step h4 (by simp only [von_nil, von_pass, von_break, von_cont, von_retN, von_expr, von_ret, von_if, von_set, von_asg, von_par2, von_par3, von_for, von_var, von_C, von_aNil, von_aCons, von_tup, von_lst, von_lstM, von_opE, von_tV, von_chain, von_tAn, von_tOr, von_tNo, von_and, von_or, von_not, von_eIf, von_call, von_callD, von_CB, von_isi, von_isis, von_pNo, von_pSo, von_sl, von_fmt, von_joined, von_runJ0, von_runJ1, von_M1, von_append, von_frz, von_iOf, von_iR1, von_iR2, von_lc, von_dct, so_some, so_none, so_bind, so_map, so_ite, on_ok, on_exc, on_bad, on_of, on_ite, on_iteB, on_runB, son_ite, son_nx, son_rt, son_bk, son_ct, son_exc, son_bad, po_nx, po_rt, po_bk, po_ct, po_ex, Po.fn, start0_eq, asB_bl, der_non, der_bl, der_int, der_str, der_tup, der_lst, der_dct, opAdd_int, opAdd_str, opAdd_tup, opAdd_lst, opSub_int, opMul_int, opDiv_int, opMod_int, opLt_int, opLe_int, opGt_int, opGe_int, opEq_int, opNe_int, opIx_tup, opIx_lst, at0, at1, at2, at3, at4, fInt_int, fLen_tup, fLen_lst, fLen_dct, fLen_str, gvName_ap, tYesV_ap, gvSub_var, Option.bind_some, Option.map_some, get0, getS, set0, setS, List.getElem?_cons_zero, List.getElem?_cons_succ, List.set_cons_zero, List.set_cons_succ, List.map_cons, List.map_nil, List.length_cons, List.length_nil, List.replicate_succ, List.replicate_zero, List.cons_append, List.nil_append, List.append_nil, Nat.reduceAdd, Nat.reduceSub, Int.reduceSub, Int.reduceNeg, Int.reduceAdd, Nat.reduceMul, Nat.reduceLeDiff, LN, true_and, and_true, if_true, if_false, Bool.not_true, Bool.not_false, Bool.false_eq_true, reduceIte, decide_true, decide_false, von_neg]) rfl rfl (by omega) fun S5 h5 => hR _ _ ?_
              clear hR R
              refine attr_step h5 (by simp only [von_nil, von_pass, von_break, von_cont, von_retN, von_expr, von_ret, von_if, von_set, von_asg, von_par2, von_par3, von_for, von_var, von_C, von_aNil, von_aCons, von_tup, von_lst, von_lstM, von_opE, von_tV, von_chain, von_tAn, von_tOr, von_tNo, von_and, von_or, von_not, von_eIf, von_call, von_callD, von_CB, von_isi, von_isis, von_pNo, von_pSo, von_sl, von_fmt, von_joined, von_runJ0, von_runJ1, von_M1, von_append, von_frz, von_iOf, von_iR1, von_iR2, von_lc, von_dct, so_some, so_none, so_bind, so_map, so_ite, on_ok, on_exc, on_bad, on_of, on_ite, on_iteB, on_runB, son_ite, son_nx, son_rt, son_bk, son_ct, son_exc, son_bad, po_nx, po_rt, po_bk, po_ct, po_ex, Po.fn, start0_eq, asB_bl, der_non, der_bl, der_int, der_str, der_tup, der_lst, der_dct, opAdd_int, opAdd_str, opAdd_tup, opAdd_lst, opSub_int, opMul_int, opDiv_int, opMod_int, opLt_int, opLe_int, opGt_int, opGe_int, opEq_int, opNe_int, opIx_tup, opIx_lst, at0, at1, at2, at3, at4, fInt_int, fLen_tup, fLen_lst, fLen_dct, fLen_str, gvName_ap, tYesV_ap, gvSub_var, Option.bind_some, Option.map_some, get0, getS, set0, setS, List.getElem?_cons_zero, List.getElem?_cons_succ, List.set_cons_zero, List.set_cons_succ, List.map_cons, List.map_nil, List.length_cons, List.length_nil, List.replicate_succ, List.replicate_zero, List.cons_append, List.nil_append, List.append_nil, Nat.reduceAdd, Nat.reduceSub, Int.reduceSub, Int.reduceNeg, Int.reduceAdd, Nat.reduceMul, Nat.reduceLeDiff, LN, true_and, and_true, if_true, if_false, Bool.not_true, Bool.not_false, Bool.false_eq_true, reduceIte, decide_true, decide_false]) rfl rfl (by omega) fun S6 h6 => ?_
              obtain ⟨y1, fs, y2, y3⟩ := h6
              exact fin_n q rfl ⟨y1, fs, y2, by omega⟩
theorem hire_on {S : Sto} {l : Nat} {a b t h p r : D} {K : D → Sto → Prop} {E : Exc → Sto → Prop} (hl : S[l]? = some (.ins 7 [])) (ha : vlB a = true) (hb : vlB b = true) (ht : vlB t = true) (hh : vlB h = true) (hp : vlB p = true) (hr : vlB r = true)
    (q : Fin (erH a b t h p r) S l 7 K E) : (m_Hire_init [.loc l, a, b, t, h, p, r] S).oo K E := by
  unfold m_Hire_init fb_Hire_init
  rw [on_runB]
  unfold erH at q
  refine seq_i fun R hR => ?_
  cases e1 : erN a b none with
  | some x =>
    obtain ⟨c, v⟩ := x
    rw [erN_s e1] at q
    simp only [von_nil, von_pass, von_break, von_cont, von_retN, von_expr, von_ret, von_if, von_set, von_asg, von_par2, von_par3, von_for, von_var, von_C, von_aNil, von_aCons, von_tup, von_lst, von_lstM, von_opE, von_tV, von_chain, von_tAn, von_tOr, von_tNo, von_and, von_or, von_not, von_eIf, von_call, von_callD, von_CB, von_isi, von_isis, von_pNo, von_pSo, von_sl, von_fmt, von_joined, von_runJ0, von_runJ1, von_M1, von_append, von_frz, von_iOf, von_iR1, von_iR2, von_lc, von_dct, so_some, so_none, so_bind, so_map, so_ite, on_ok, on_exc, on_bad, on_of, on_ite, on_iteB, on_runB, son_ite, son_nx, son_rt, son_bk, son_ct, son_exc, son_bad, po_nx, po_rt, po_bk, po_ct, po_ex, Po.fn, start0_eq, asB_bl, der_non, der_bl, der_int, der_str, der_tup, der_lst, der_dct, opAdd_int, opAdd_str, opAdd_tup, opAdd_lst, opSub_int, opMul_int, opDiv_int, opMod_int, opLt_int, opLe_int, opGt_int, opGe_int, opEq_int, opNe_int, opIx_tup, opIx_lst, at0, at1, at2, at3, at4, fInt_int, fLen_tup, fLen_lst, fLen_dct, fLen_str, gvName_ap, tYesV_ap, gvSub_var, Option.bind_some, Option.map_some, get0, getS, set0, setS, List.getElem?_cons_zero, List.getElem?_cons_succ, List.set_cons_zero, List.set_cons_succ, List.map_cons, List.map_nil, List.length_cons, List.length_nil, List.replicate_succ, List.replicate_zero, List.cons_append, List.nil_append, List.append_nil, Nat.reduceAdd, Nat.reduceSub, Int.reduceSub, Int.reduceNeg, Int.reduceAdd, Nat.reduceMul, Nat.reduceLeDiff, LN, true_and, and_true, if_true, if_false, Bool.not_true, Bool.not_false, Bool.false_eq_true, reduceIte, decide_true, decide_false, names_chk ha hb, e1, toR]
    exact q
  | none =>
    rw [erN_n e1] at q
    simp only [von_nil, von_pass, von_break, von_cont, von_retN, von_expr, von_ret, von_if, von_set, von_asg, von_par2, von_par3, von_for, von_var, von_C, von_aNil, von_aCons, von_tup, von_lst, von_lstM, von_opE, von_tV, von_chain, von_tAn, von_tOr, von_tNo, von_and, von_or, von_not, von_eIf, von_call, von_callD, von_CB, von_isi, von_isis, von_pNo, von_pSo, von_sl, von_fmt, von_joined, von_runJ0, von_runJ1, von_M1, von_append, von_frz, von_iOf, von_iR1, von_iR2, von_lc, von_dct, so_some, so_none, so_bind, so_map, so_ite, on_ok, on_exc, on_bad, on_of, on_ite, on_iteB, on_runB, son_ite, son_nx, son_rt, son_bk, son_ct, son_exc, son_bad, po_nx, po_rt, po_bk, po_ct, po_ex, Po.fn, start0_eq, asB_bl, der_non, der_bl, der_int, der_str, der_tup, der_lst, der_dct, opAdd_int, opAdd_str, opAdd_tup, opAdd_lst, opSub_int, opMul_int, opDiv_int, opMod_int, opLt_int, opLe_int, opGt_int, opGe_int, opEq_int, opNe_int, opIx_tup, opIx_lst, at0, at1, at2, at3, at4, fInt_int, fLen_tup, fLen_lst, fLen_dct, fLen_str, gvName_ap, tYesV_ap, gvSub_var, Option.bind_some, Option.map_some, get0, getS, set0, setS, List.getElem?_cons_zero, List.getElem?_cons_succ, List.set_cons_zero, List.set_cons_succ, List.map_cons, List.map_nil, List.length_cons, List.length_nil, List.replicate_succ, List.replicate_zero, List.cons_append, List.nil_append, List.append_nil, Nat.reduceAdd, Nat.reduceSub, Int.reduceSub, Int.reduceNeg, Int.reduceAdd, Nat.reduceMul, Nat.reduceLeDiff, LN, true_and, and_true, if_true, if_false, Bool.not_true, Bool.not_false, Bool.false_eq_true, reduceIte, decide_true, decide_false, names_chk ha hb, e1, toR]
    refine hR _ _ ?_
    clear hR R
    refine seq_i fun R hR => ?_
    cases e3 : pStd t with
    | false =>
      rw [ck_f e3] at q
      simp only [von_nil, von_pass, von_break, von_cont, von_retN, von_expr, von_ret, von_if, von_set, von_asg, von_par2, von_par3, von_for, von_var, von_C, von_aNil, von_aCons, von_tup, von_lst, von_lstM, von_opE, von_tV, von_chain, von_tAn, von_tOr, von_tNo, von_and, von_or, von_not, von_eIf, von_call, von_callD, von_CB, von_isi, von_isis, von_pNo, von_pSo, von_sl, von_fmt, von_joined, von_runJ0, von_runJ1, von_M1, von_append, von_frz, von_iOf, von_iR1, von_iR2, von_lc, von_dct, so_some, so_none, so_bind, so_map, so_ite, on_ok, on_exc, on_bad, on_of, on_ite, on_iteB, on_runB, son_ite, son_nx, son_rt, son_bk, son_ct, son_exc, son_bad, po_nx, po_rt, po_bk, po_ct, po_ex, Po.fn, start0_eq, asB_bl, der_non, der_bl, der_int, der_str, der_tup, der_lst, der_dct, opAdd_int, opAdd_str, opAdd_tup, opAdd_lst, opSub_int, opMul_int, opDiv_int, opMod_int, opLt_int, opLe_int, opGt_int, opGe_int, opEq_int, opNe_int, opIx_tup, opIx_lst, at0, at1, at2, at3, at4, fInt_int, fLen_tup, fLen_lst, fLen_dct, fLen_str, gvName_ap, tYesV_ap, gvSub_var, Option.bind_some, Option.map_some, get0, getS, set0, setS, List.getElem?_cons_zero, List.getElem?_cons_succ, List.set_cons_zero, List.set_cons_succ, List.map_cons, List.map_nil, List.length_cons, List.length_nil, List.replicate_succ, List.replicate_zero, List.cons_append, List.nil_append, List.append_nil, Nat.reduceAdd, Nat.reduceSub, Int.reduceSub, Int.reduceNeg, Int.reduceAdd, Nat.reduceMul, Nat.reduceLeDiff, LN, true_and, and_true, if_true, if_false, Bool.not_true, Bool.not_false, Bool.false_eq_true, reduceIte, decide_true, decide_false, std_eq (vlB_Val ht), e3, von_raise, msg1, vlB_msg ht]
      exact q
    | true =>
      obtain ⟨t1, i, rfl⟩ := pStd_shape e3
      rw [ck_t e3] at q
      simp only [von_nil, von_pass, von_break, von_cont, von_retN, von_expr, von_ret, von_if, von_set, von_asg, von_par2, von_par3, von_for, von_var, von_C, von_aNil, von_aCons, von_tup, von_lst, von_lstM, von_opE, von_tV, von_chain, von_tAn, von_tOr, von_tNo, von_and, von_or, von_not, von_eIf, von_call, von_callD, von_CB, von_isi, von_isis, von_pNo, von_pSo, von_sl, von_fmt, von_joined, von_runJ0, von_runJ1, von_M1, von_append, von_frz, von_iOf, von_iR1, von_iR2, von_lc, von_dct, so_some, so_none, so_bind, so_map, so_ite, on_ok, on_exc, on_bad, on_of, on_ite, on_iteB, on_runB, son_ite, son_nx, son_rt, son_bk, son_ct, son_exc, son_bad, po_nx, po_rt, po_bk, po_ct, po_ex, Po.fn, start0_eq, asB_bl, der_non, der_bl, der_int, der_str, der_tup, der_lst, der_dct, opAdd_int, opAdd_str, opAdd_tup, opAdd_lst, opSub_int, opMul_int, opDiv_int, opMod_int, opLt_int, opLe_int, opGt_int, opGe_int, opEq_int, opNe_int, opIx_tup, opIx_lst, at0, at1, at2, at3, at4, fInt_int, fLen_tup, fLen_lst, fLen_dct, fLen_str, gvName_ap, tYesV_ap, gvSub_var, Option.bind_some, Option.map_some, get0, getS, set0, setS, List.getElem?_cons_zero, List.getElem?_cons_succ, List.set_cons_zero, List.set_cons_succ, List.map_cons, List.map_nil, List.length_cons, List.length_nil, List.replicate_succ, List.replicate_zero, List.cons_append, List.nil_append, List.append_nil, Nat.reduceAdd, Nat.reduceSub, Int.reduceSub, Int.reduceNeg, Int.reduceAdd, Nat.reduceMul, Nat.reduceLeDiff, LN, true_and, and_true, if_true, if_false, Bool.not_true, Bool.not_false, Bool.false_eq_true, reduceIte, decide_true, decide_false, std_eq (vlB_Val ht), e3]
      refine hR _ _ ?_
      clear hR R
      refine seq_i fun R hR => ?_
      cases e4 : erT h p none with
      | some x =>
        obtain ⟨c, v⟩ := x
        rw [erT_s e4] at q
        simp only [von_nil, von_pass, von_break, von_cont, von_retN, von_expr, von_ret, von_if, von_set, von_asg, von_par2, von_par3, von_for, von_var, von_C, von_aNil, von_aCons, von_tup, von_lst, von_lstM, von_opE, von_tV, von_chain, von_tAn, von_tOr, von_tNo, von_and, von_or, von_not, von_eIf, von_call, von_callD, von_CB, von_isi, von_isis, von_pNo, von_pSo, von_sl, von_fmt, von_joined, von_runJ0, von_runJ1, von_M1, von_append, von_frz, von_iOf, von_iR1, von_iR2, von_lc, von_dct, so_some, so_none, so_bind, so_map, so_ite, on_ok, on_exc, on_bad, on_of, on_ite, on_iteB, on_runB, son_ite, son_nx, son_rt, son_bk, son_ct, son_exc, son_bad, po_nx, po_rt, po_bk, po_ct, po_ex, Po.fn, start0_eq, asB_bl, der_non, der_bl, der_int, der_str, der_tup, der_lst, der_dct, opAdd_int, opAdd_str, opAdd_tup, opAdd_lst, opSub_int, opMul_int, opDiv_int, opMod_int, opLt_int, opLe_int, opGt_int, opGe_int, opEq_int, opNe_int, opIx_tup, opIx_lst, at0, at1, at2, at3, at4, fInt_int, fLen_tup, fLen_lst, fLen_dct, fLen_str, gvName_ap, tYesV_ap, gvSub_var, Option.bind_some, Option.map_some, get0, getS, set0, setS, List.getElem?_cons_zero, List.getElem?_cons_succ, List.set_cons_zero, List.set_cons_succ, List.map_cons, List.map_nil, List.length_cons, List.length_nil, List.replicate_succ, List.replicate_zero, List.cons_append, List.nil_append, List.append_nil, Nat.reduceAdd, Nat.reduceSub, Int.reduceSub, Int.reduceNeg, Int.reduceAdd, Nat.reduceMul, Nat.reduceLeDiff, LN, true_and, and_true, if_true, if_false, Bool.not_true, Bool.not_false, Bool.false_eq_true, reduceIte, decide_true, decide_false, terms_chk hh hp, e4, toR]
        exact q
      | none =>
        rw [erT_n e4] at q
        obtain ⟨pi, rfl⟩ := erT_price e4
        simp only [von_nil, von_pass, von_break, von_cont, von_retN, von_expr, von_ret, von_if, von_set, von_asg, von_par2, von_par3, von_for, von_var, von_C, von_aNil, von_aCons, von_tup, von_lst, von_lstM, von_opE, von_tV, von_chain, von_tAn, von_tOr, von_tNo, von_and, von_or, von_not, von_eIf, von_call, von_callD, von_CB, von_isi, von_isis, von_pNo, von_pSo, von_sl, von_fmt, von_joined, von_runJ0, von_runJ1, von_M1, von_append, von_frz, von_iOf, von_iR1, von_iR2, von_lc, von_dct, so_some, so_none, so_bind, so_map, so_ite, on_ok, on_exc, on_bad, on_of, on_ite, on_iteB, on_runB, son_ite, son_nx, son_rt, son_bk, son_ct, son_exc, son_bad, po_nx, po_rt, po_bk, po_ct, po_ex, Po.fn, start0_eq, asB_bl, der_non, der_bl, der_int, der_str, der_tup, der_lst, der_dct, opAdd_int, opAdd_str, opAdd_tup, opAdd_lst, opSub_int, opMul_int, opDiv_int, opMod_int, opLt_int, opLe_int, opGt_int, opGe_int, opEq_int, opNe_int, opIx_tup, opIx_lst, at0, at1, at2, at3, at4, fInt_int, fLen_tup, fLen_lst, fLen_dct, fLen_str, gvName_ap, tYesV_ap, gvSub_var, Option.bind_some, Option.map_some, get0, getS, set0, setS, List.getElem?_cons_zero, List.getElem?_cons_succ, List.set_cons_zero, List.set_cons_succ, List.map_cons, List.map_nil, List.length_cons, List.length_nil, List.replicate_succ, List.replicate_zero, List.cons_append, List.nil_append, List.append_nil, Nat.reduceAdd, Nat.reduceSub, Int.reduceSub, Int.reduceNeg, Int.reduceAdd, Nat.reduceMul, Nat.reduceLeDiff, LN, true_and, and_true, if_true, if_false, Bool.not_true, Bool.not_false, Bool.false_eq_true, reduceIte, decide_true, decide_false, terms_chk hh hp, e4, toR]
        refine hR _ _ ?_
        clear hR R
        refine seq_i fun R hR => ?_
        cases e5 : erR r none with
        | some x =>
          obtain ⟨c, v⟩ := x
          rw [e5] at q
          simp only [von_nil, von_pass, von_break, von_cont, von_retN, von_expr, von_ret, von_if, von_set, von_asg, von_par2, von_par3, von_for, von_var, von_C, von_aNil, von_aCons, von_tup, von_lst, von_lstM, von_opE, von_tV, von_chain, von_tAn, von_tOr, von_tNo, von_and, von_or, von_not, von_eIf, von_call, von_callD, von_CB, von_isi, von_isis, von_pNo, von_pSo, von_sl, von_fmt, von_joined, von_runJ0, von_runJ1, von_M1, von_append, von_frz, von_iOf, von_iR1, von_iR2, von_lc, von_dct, so_some, so_none, so_bind, so_map, so_ite, on_ok, on_exc, on_bad, on_of, on_ite, on_iteB, on_runB, son_ite, son_nx, son_rt, son_bk, son_ct, son_exc, son_bad, po_nx, po_rt, po_bk, po_ct, po_ex, Po.fn, start0_eq, asB_bl, der_non, der_bl, der_int, der_str, der_tup, der_lst, der_dct, opAdd_int, opAdd_str, opAdd_tup, opAdd_lst, opSub_int, opMul_int, opDiv_int, opMod_int, opLt_int, opLe_int, opGt_int, opGe_int, opEq_int, opNe_int, opIx_tup, opIx_lst, at0, at1, at2, at3, at4, fInt_int, fLen_tup, fLen_lst, fLen_dct, fLen_str, gvName_ap, tYesV_ap, gvSub_var, Option.bind_some, Option.map_some, get0, getS, set0, setS, List.getElem?_cons_zero, List.getElem?_cons_succ, List.set_cons_zero, List.set_cons_succ, List.map_cons, List.map_nil, List.length_cons, List.length_nil, List.replicate_succ, List.replicate_zero, List.cons_append, List.nil_append, List.append_nil, Nat.reduceAdd, Nat.reduceSub, Int.reduceSub, Int.reduceNeg, Int.reduceAdd, Nat.reduceMul, Nat.reduceLeDiff, LN, true_and, and_true, if_true, if_false, Bool.not_true, Bool.not_false, Bool.false_eq_true, reduceIte, decide_true, decide_false, rank_chk hr, e5, toR]
          exact q
        | none =>
          rw [e5] at q
          simp only [von_nil, von_pass, von_break, von_cont, von_retN, von_expr, von_ret, von_if, von_set, von_asg, von_par2, von_par3, von_for, von_var, von_C, von_aNil, von_aCons, von_tup, von_lst, von_lstM, von_opE, von_tV, von_chain, von_tAn, von_tOr, von_tNo, von_and, von_or, von_not, von_eIf, von_call, von_callD, von_CB, von_isi, von_isis, von_pNo, von_pSo, von_sl, von_fmt, von_joined, von_runJ0, von_runJ1, von_M1, von_append, von_frz, von_iOf, von_iR1, von_iR2, von_lc, von_dct, so_some, so_none, so_bind, so_map, so_ite, on_ok, on_exc, on_bad, on_of, on_ite, on_iteB, on_runB, son_ite, son_nx, son_rt, son_bk, son_ct, son_exc, son_bad, po_nx, po_rt, po_bk, po_ct, po_ex, Po.fn, start0_eq, asB_bl, der_non, der_bl, der_int, der_str, der_tup, der_lst, der_dct, opAdd_int, opAdd_str, opAdd_tup, opAdd_lst, opSub_int, opMul_int, opDiv_int, opMod_int, opLt_int, opLe_int, opGt_int, opGe_int, opEq_int, opNe_int, opIx_tup, opIx_lst, at0, at1, at2, at3, at4, fInt_int, fLen_tup, fLen_lst, fLen_dct, fLen_str, gvName_ap, tYesV_ap, gvSub_var, Option.bind_some, Option.map_some, get0, getS, set0, setS, List.getElem?_cons_zero, List.getElem?_cons_succ, List.set_cons_zero, List.set_cons_succ, List.map_cons, List.map_nil, List.length_cons, List.length_nil, List.replicate_succ, List.replicate_zero, List.cons_append, List.nil_append, List.append_nil, Nat.reduceAdd, Nat.reduceSub, Int.reduceSub, Int.reduceNeg, Int.reduceAdd, Nat.reduceMul, Nat.reduceLeDiff, LN, true_and, and_true, if_true, if_false, Bool.not_true, Bool.not_false, Bool.false_eq_true, reduceIte, decide_true, decide_false, rank_chk hr, e5, toR]
          refine hR _ _ ?_
          clear hR R
          have hI := insk0 hl
          refine seq_i fun R hR => ?_
          simp only [von_nil, von_pass, von_break, von_cont, von_retN, von_expr, von_ret, von_if, von_set, von_asg, von_par2, von_par3, von_for, von_var, von_C, von_aNil, von_aCons, von_tup, von_lst, von_lstM, von_opE, von_tV, von_chain, von_tAn, von_tOr, von_tNo, von_and, von_or, von_not, von_eIf, von_call, von_callD, von_CB, von_isi, von_isis, von_pNo, von_pSo, von_sl, von_fmt, von_joined, von_runJ0, von_runJ1, von_M1, von_append, von_frz, von_iOf, von_iR1, von_iR2, von_lc, von_dct, so_some, so_none, so_bind, so_map, so_ite, on_ok, on_exc, on_bad, on_of, on_ite, on_iteB, on_runB, son_ite, son_nx, son_rt, son_bk, son_ct, son_exc, son_bad, po_nx, po_rt, po_bk, po_ct, po_ex, Po.fn, start0_eq, asB_bl, der_non, der_bl, der_int, der_str, der_tup, der_lst, der_dct, opAdd_int, opAdd_str, opAdd_tup, opAdd_lst, opSub_int, opMul_int, opDiv_int, opMod_int, opLt_int, opLe_int, opGt_int, opGe_int, opEq_int, opNe_int, opIx_tup, opIx_lst, at0, at1, at2, at3, at4, fInt_int, fLen_tup, fLen_lst, fLen_dct, fLen_str, gvName_ap, tYesV_ap, gvSub_var, Option.bind_some, Option.map_some, get0, getS, set0, setS, List.getElem?_cons_zero, List.getElem?_cons_succ, List.set_cons_zero, List.set_cons_succ, List.map_cons, List.map_nil, List.length_cons, List.length_nil, List.replicate_succ, List.replicate_zero, List.cons_append, List.nil_append, List.append_nil, Nat.reduceAdd, Nat.reduceSub, Int.reduceSub, Int.reduceNeg, Int.reduceAdd, Nat.reduceMul, Nat.reduceLeDiff, LN, true_and, and_true, if_true, if_false, Bool.not_true, Bool.not_false, Bool.false_eq_true, reduceIte, decide_true, decide_false]
          refine asking_on hI rfl (by omega) fun S1 h1 => hR _ _ ?_
          clear hR R
          refine seq_i fun R hR => attr_step h1 (by simp only [von_nil, von_pass, von_break, von_cont, von_retN, von_expr, von_ret, von_if, von_set, von_asg, von_par2, von_par3, von_for, von_var, von_C, von_aNil, von_aCons, von_tup, von_lst, von_lstM, von_opE, von_tV, von_chain, von_tAn, von_tOr, von_tNo, von_and, von_or, von_not, von_eIf, von_call, von_callD, von_CB, von_isi, von_isis, von_pNo, von_pSo, von_sl, von_fmt, von_joined, von_runJ0, von_runJ1, von_M1, von_append, von_frz, von_iOf, von_iR1, von_iR2, von_lc, von_dct, so_some, so_none, so_bind, so_map, so_ite, on_ok, on_exc, on_bad, on_of, on_ite, on_iteB, on_runB, son_ite, son_nx, son_rt, son_bk, son_ct, son_exc, son_bad, po_nx, po_rt, po_bk, po_ct, po_ex, Po.fn, start0_eq, asB_bl, der_non, der_bl, der_int, der_str, der_tup, der_lst, der_dct, opAdd_int, opAdd_str, opAdd_tup, opAdd_lst, opSub_int, opMul_int, opDiv_int, opMod_int, opLt_int, opLe_int, opGt_int, opGe_int, opEq_int, opNe_int, opIx_tup, opIx_lst, at0, at1, at2, at3, at4, fInt_int, fLen_tup, fLen_lst, fLen_dct, fLen_str, gvName_ap, tYesV_ap, gvSub_var, Option.bind_some, Option.map_some, get0, getS, set0, setS, List.getElem?_cons_zero, List.getElem?_cons_succ, List.set_cons_zero, List.set_cons_succ, List.map_cons, List.map_nil, List.length_cons, List.length_nil, List.replicate_succ, List.replicate_zero, List.cons_append, List.nil_append, List.append_nil, Nat.reduceAdd, Nat.reduceSub, Int.reduceSub, Int.reduceNeg, Int.reduceAdd, Nat.reduceMul, Nat.reduceLeDiff, LN, true_and, and_true, if_true, if_false, Bool.not_true, Bool.not_false, Bool.false_eq_true, reduceIte, decide_true, decide_false]) rfl rfl (by omega) fun S2 h2 => hR _ _ ?_
          clear hR R
          refine seq_i fun R hR => attr_step h2 (by simp only [von_nil, von_pass, von_break, von_cont, von_retN, von_expr, von_ret, von_if, von_set, von_asg, von_par2, von_par3, von_for, von_var, von_C, von_aNil, von_aCons, von_tup, von_lst, von_lstM, von_opE, von_tV, von_chain, von_tAn, von_tOr, von_tNo, von_and, von_or, von_not, von_eIf, von_call, von_callD, von_CB, von_isi, von_isis, von_pNo, von_pSo, von_sl, von_fmt, von_joined, von_runJ0, von_runJ1, von_M1, von_append, von_frz, von_iOf, von_iR1, von_iR2, von_lc, von_dct, so_some, so_none, so_bind, so_map, so_ite, on_ok, on_exc, on_bad, on_of, on_ite, on_iteB, on_runB, son_ite, son_nx, son_rt, son_bk, son_ct, son_exc, son_bad, po_nx, po_rt, po_bk, po_ct, po_ex, Po.fn, start0_eq, asB_bl, der_non, der_bl, der_int, der_str, der_tup, der_lst, der_dct, opAdd_int, opAdd_str, opAdd_tup, opAdd_lst, opSub_int, opMul_int, opDiv_int, opMod_int, opLt_int, opLe_int, opGt_int, opGe_int, opEq_int, opNe_int, opIx_tup, opIx_lst, at0, at1, at2, at3, at4, fInt_int, fLen_tup, fLen_lst, fLen_dct, fLen_str, gvName_ap, tYesV_ap, gvSub_var, Option.bind_some, Option.map_some, get0, getS, set0, setS, List.getElem?_cons_zero, List.getElem?_cons_succ, List.set_cons_zero, List.set_cons_succ, List.map_cons, List.map_nil, List.length_cons, List.length_nil, List.replicate_succ, List.replicate_zero, List.cons_append, List.nil_append, List.append_nil, Nat.reduceAdd, Nat.reduceSub, Int.reduceSub, Int.reduceNeg, Int.reduceAdd, Nat.reduceMul, Nat.reduceLeDiff, LN, true_and, and_true, if_true, if_false, Bool.not_true, Bool.not_false, Bool.false_eq_true, reduceIte, decide_true, decide_false]) rfl rfl (by omega) fun S3 h3 => hR _ _ ?_
          clear hR R
          refine seq_i fun R hR => attr_step h3 (by simp only [von_nil, von_pass, von_break, von_cont, von_retN, von_expr, von_ret, von_if, von_set, von_asg, von_par2, von_par3, von_for, von_var, von_C, von_aNil, von_aCons, von_tup, von_lst, von_lstM, von_opE, von_tV, von_chain, von_tAn, von_tOr, von_tNo, von_and, von_or, von_not, von_eIf, von_call, von_callD, von_CB, von_isi, von_isis, von_pNo, von_pSo, von_sl, von_fmt, von_joined, von_runJ0, von_runJ1, von_M1, von_append, von_frz, von_iOf, von_iR1, von_iR2, von_lc, von_dct, so_some, so_none, so_bind, so_map, so_ite, on_ok, on_exc, on_bad, on_of, on_ite, on_iteB, on_runB, son_ite, son_nx, son_rt, son_bk, son_ct, son_exc, son_bad, po_nx, po_rt, po_bk, po_ct, po_ex, Po.fn, start0_eq, asB_bl, der_non, der_bl, der_int, der_str, der_tup, der_lst, der_dct, opAdd_int, opAdd_str, opAdd_tup, opAdd_lst, opSub_int, opMul_int, opDiv_int, opMod_int, opLt_int, opLe_int, opGt_int, opGe_int, opEq_int, opNe_int, opIx_tup, opIx_lst, at0, at1, at2, at3, at4, fInt_int, fLen_tup, fLen_lst, fLen_dct, fLen_str, gvName_ap, tYesV_ap, gvSub_var, Option.bind_some, Option.map_some, get0, getS, set0, setS, List.getElem?_cons_zero, List.getElem?_cons_succ, List.set_cons_zero, List.set_cons_succ, List.map_cons, List.map_nil, List.length_cons, List.length_nil, List.replicate_succ, List.replicate_zero, List.cons_append, List.nil_append, List.append_nil, Nat.reduceAdd, Nat.reduceSub, Int.reduceSub, Int.reduceNeg, Int.reduceAdd, Nat.reduceMul, Nat.reduceLeDiff, LN, true_and, and_true, if_true, if_false, Bool.not_true, Bool.not_false, Bool.false_eq_true, reduceIte, decide_true, decide_false]) rfl rfl (by omega) fun S4 h4 => hR _ _ ?_
          clear hR R
          refine seq_i fun R hR => attr_step h4 (by simp only [von_nil, von_pass, von_break, von_cont, von_retN, von_expr, von_ret, von_if, von_set, von_asg, von_par2, von_par3, von_for, von_var, von_C, von_aNil, von_aCons, von_tup, von_lst, von_lstM, von_opE, von_tV, von_chain, von_tAn, von_tOr, von_tNo, von_and, von_or, von_not, von_eIf, von_call, von_callD, von_CB, von_isi, von_isis, von_pNo, von_pSo, von_sl, von_fmt, von_joined, von_runJ0, von_runJ1, von_M1, von_append, von_frz, von_iOf, von_iR1, von_iR2, von_lc, von_dct, so_some, so_none, so_bind, so_map, so_ite, on_ok, on_exc, on_bad, on_of, on_ite, on_iteB, on_runB, son_ite, son_nx, son_rt, son_bk, son_ct, son_exc, son_bad, po_nx, po_rt, po_bk, po_ct, po_ex, Po.fn, start0_eq, asB_bl, der_non, der_bl, der_int, der_str, der_tup, der_lst, der_dct, opAdd_int, opAdd_str, opAdd_tup, opAdd_lst, opSub_int, opMul_int, opDiv_int, opMod_int, opLt_int, opLe_int, opGt_int, opGe_int, opEq_int, opNe_int, opIx_tup, opIx_lst, at0, at1, at2, at3, at4, fInt_int, fLen_tup, fLen_lst, fLen_dct, fLen_str, gvName_ap, tYesV_ap, gvSub_var, Option.bind_some, Option.map_some, get0, getS, set0, setS, List.getElem?_cons_zero, List.getElem?_cons_succ, List.set_cons_zero, List.set_cons_succ, List.map_cons, List.map_nil, List.length_cons, List.length_nil, List.replicate_succ, List.replicate_zero, List.cons_append, List.nil_append, List.append_nil, Nat.reduceAdd, Nat.reduceSub, Int.reduceSub, Int.reduceNeg, Int.reduceAdd, Nat.reduceMul, Nat.reduceLeDiff, LN, true_and, and_true, if_true, if_false, Bool.not_true, Bool.not_false, Bool.false_eq_true, reduceIte, decide_true, decide_false]) rfl rfl (by omega) fun S5 h5 => hR _ _ ?_
          clear hR R
          refine attr_step h5 (by simp only [von_nil, von_pass, von_break, von_cont, von_retN, von_expr, von_ret, von_if, von_set, von_asg, von_par2, von_par3, von_for, von_var, von_C, von_aNil, von_aCons, von_tup, von_lst, von_lstM, von_opE, von_tV, von_chain, von_tAn, von_tOr, von_tNo, von_and, von_or, von_not, von_eIf, von_call, von_callD, von_CB, von_isi, von_isis, von_pNo, von_pSo, von_sl, von_fmt, von_joined, von_runJ0, von_runJ1, von_M1, von_append, von_frz, von_iOf, von_iR1, von_iR2, von_lc, von_dct, so_some, so_none, so_bind, so_map, so_ite, on_ok, on_exc, on_bad, on_of, on_ite, on_iteB, on_runB, son_ite, son_nx, son_rt, son_bk, son_ct, son_exc, son_bad, po_nx, po_rt, po_bk, po_ct, po_ex, Po.fn, start0_eq, asB_bl, der_non, der_bl, der_int, der_str, der_tup, der_lst, der_dct, opAdd_int, opAdd_str, opAdd_tup, opAdd_lst, opSub_int, opMul_int, opDiv_int, opMod_int, opLt_int, opLe_int, opGt_int, opGe_int, opEq_int, opNe_int, opIx_tup, opIx_lst, at0, at1, at2, at3, at4, fInt_int, fLen_tup, fLen_lst, fLen_dct, fLen_str, gvName_ap, tYesV_ap, gvSub_var, Option.bind_some, Option.map_some, get0, getS, set0, setS, List.getElem?_cons_zero, List.getElem?_cons_succ, List.set_cons_zero, List.set_cons_succ, List.map_cons, List.map_nil, List.length_cons, List.length_nil, List.replicate_succ, List.replicate_zero, List.cons_append, List.nil_append, List.append_nil, Nat.reduceAdd, Nat.reduceSub, Int.reduceSub, Int.reduceNeg, Int.reduceAdd, Nat.reduceMul, Nat.reduceLeDiff, LN, true_and, and_true, if_true, if_false, Bool.not_true, Bool.not_false, Bool.false_eq_true, reduceIte, decide_true, decide_false]) rfl rfl (by omega) fun S6 h6 => ?_
          obtain ⟨y1, fs, y2, y3⟩ := h6
          exact fin_n q rfl ⟨y1, fs, y2, by omega⟩
end KG

namespace KG
open PySem PySem.Spec PyProof.Rows L2 DL PL
def fldE (c : Nat) (v : D) : List (Str × D) := [("value", v), ("code", .str (cdS c))]
theorem excD_fld (c : Nat) (v : D) : excD c (cdS c) ["value"] [v] = ⟨c, fldE c v⟩ := rfl
theorem look_code (c : Nat) (v : D) : (fldE c v).lookup ("code" : Str) = some (.str (cdS c)) := by
  have e1 : (("code" : Str) == "value") = false := by rfl
  have e2 : (("code" : Str) == "code") = true := by rfl
  simp only [fldE, List.lookup_cons, e1, e2]
theorem look_value (c : Nat) (v : D) : (fldE c v).lookup ("value" : Str) = some v := by
  have e1 : (("value" : Str) == "value") = true := by rfl
  simp only [fldE, List.lookup_cons, e1]
def Cd (c : Nat) : Prop := c = 1 ∨ c = 2 ∨ c = 3
theorem cd_has {c : Nat} (h : Cd c) : xcs.contains c = true := by rcases h with rfl | rfl | rfl <;> rfl
theorem cd_in {c : Nat} (h : Cd c) (S : Sto) : opIn (.str (cdS c)) (.tup [.str "InvalidName", .str "InvalidNumber", .str "InvalidStanding"]) S = some (.bl true) := by
  rcases h with rfl | rfl | rfl <;> rfl
theorem cd_nil {c : Nat} (h : Cd c) : (cdS c == ("" : Str)) = false := by rcases h with rfl | rfl | rfl <;> rfl
theorem parts_eq {c : Nat} (h : Cd c) (v : D) (S : Sto) : m_law_parts [.exc c (fldE c v)] S = .ok (.tup [v]) S := by
  apply on_eq
  unfold m_law_parts fb_law_parts
  simp only [von_nil, von_pass, von_break, von_cont, von_retN, von_expr, von_ret, von_if, von_set, von_asg, von_par2, von_par3, von_for, von_var, von_C, von_aNil, von_aCons, von_tup, von_lst, von_lstM, von_opE, von_tV, von_chain, von_tAn, von_tOr, von_tNo, von_and, von_or, von_not, von_eIf, von_call, von_callD, von_CB, von_isi, von_isis, von_pNo, von_pSo, von_sl, von_fmt, von_joined, von_runJ0, von_runJ1, von_M1, von_append, von_frz, von_iOf, von_iR1, von_iR2, von_lc, von_dct, so_some, so_none, so_bind, so_map, so_ite, on_ok, on_exc, on_bad, on_of, on_ite, on_iteB, on_runB, son_ite, son_nx, son_rt, son_bk, son_ct, son_exc, son_bad, po_nx, po_rt, po_bk, po_ct, po_ex, Po.fn, start0_eq, asB_bl, der_non, der_bl, der_int, der_str, der_tup, der_lst, der_dct, opAdd_int, opAdd_str, opAdd_tup, opAdd_lst, opSub_int, opMul_int, opDiv_int, opMod_int, opLt_int, opLe_int, opGt_int, opGe_int, opEq_int, opNe_int, opIx_tup, opIx_lst, at0, at1, at2, at3, at4, fInt_int, fLen_tup, fLen_lst, fLen_dct, fLen_str, gvName_ap, tYesV_ap, gvSub_var, Option.bind_some, Option.map_some, get0, getS, set0, setS, List.getElem?_cons_zero, List.getElem?_cons_succ, List.set_cons_zero, List.set_cons_succ, List.map_cons, List.map_nil, List.length_cons, List.length_nil, List.replicate_succ, List.replicate_zero, List.cons_append, List.nil_append, List.append_nil, Nat.reduceAdd, Nat.reduceSub, Int.reduceSub, Int.reduceNeg, Int.reduceAdd, Nat.reduceMul, Nat.reduceLeDiff, LN, true_and, and_true, if_true, if_false, Bool.not_true, Bool.not_false, Bool.false_eq_true, reduceIte, decide_true, decide_false, von_seq, von_xattr, cd_has h, cd_in h, look_code, look_value]
theorem son_rt_eq {o : Out} {v : D} {S0 : Sto} (h : o.oo ⟨fun _ _ => False, fun d S => d = v ∧ S = S0, fun _ _ => False, fun _ _ => False, fun _ _ _ => False⟩) : o = .rt v S0 := by
  rw [ooS_eq] at h
  cases o with
  | rt d S => obtain ⟨rfl, rfl⟩ := (h : d = v ∧ S = S0); rfl
  | _ => exact (show False from h).elim
theorem try_rt {c : Nat} (h : Cd c) (v : D) (S : Sto) : fs_law_try [none, some (.exc c (fldE c v))] S = .rt (.tup [.str (cdS c), v]) S := by
  apply son_rt_eq
  unfold fs_law_try
  simp only [von_nil, von_pass, von_break, von_cont, von_retN, von_expr, von_ret, von_if, von_set, von_asg, von_par2, von_par3, von_for, von_var, von_C, von_aNil, von_aCons, von_tup, von_lst, von_lstM, von_opE, von_tV, von_chain, von_tAn, von_tOr, von_tNo, von_and, von_or, von_not, von_eIf, von_call, von_callD, von_CB, von_isi, von_isis, von_pNo, von_pSo, von_sl, von_fmt, von_joined, von_runJ0, von_runJ1, von_M1, von_append, von_frz, von_iOf, von_iR1, von_iR2, von_lc, von_dct, so_some, so_none, so_bind, so_map, so_ite, on_ok, on_exc, on_bad, on_of, on_ite, on_iteB, on_runB, son_ite, son_nx, son_rt, son_bk, son_ct, son_exc, son_bad, po_nx, po_rt, po_bk, po_ct, po_ex, Po.fn, start0_eq, asB_bl, der_non, der_bl, der_int, der_str, der_tup, der_lst, der_dct, opAdd_int, opAdd_str, opAdd_tup, opAdd_lst, opSub_int, opMul_int, opDiv_int, opMod_int, opLt_int, opLe_int, opGt_int, opGe_int, opEq_int, opNe_int, opIx_tup, opIx_lst, at0, at1, at2, at3, at4, fInt_int, fLen_tup, fLen_lst, fLen_dct, fLen_str, gvName_ap, tYesV_ap, gvSub_var, Option.bind_some, Option.map_some, get0, getS, set0, setS, List.getElem?_cons_zero, List.getElem?_cons_succ, List.set_cons_zero, List.set_cons_succ, List.map_cons, List.map_nil, List.length_cons, List.length_nil, List.replicate_succ, List.replicate_zero, List.cons_append, List.nil_append, List.append_nil, Nat.reduceAdd, Nat.reduceSub, Int.reduceSub, Int.reduceNeg, Int.reduceAdd, Nat.reduceMul, Nat.reduceLeDiff, LN, true_and, and_true, if_true, if_false, Bool.not_true, Bool.not_false, Bool.false_eq_true, reduceIte, decide_true, decide_false, von_xattr, von_callW, cd_has h, look_code, parts_eq h]
theorem nil_b : (("" : Str) == ("" : Str)) = true := by rfl
theorem why_ok (d : D) (S : Sto) : fs_law_why [none, some (.tup [.str "", d])] S = .rt (.tup []) S := by
  apply son_rt_eq
  unfold fs_law_why
  simp only [von_nil, von_pass, von_break, von_cont, von_retN, von_expr, von_ret, von_if, von_set, von_asg, von_par2, von_par3, von_for, von_var, von_C, von_aNil, von_aCons, von_tup, von_lst, von_lstM, von_opE, von_tV, von_chain, von_tAn, von_tOr, von_tNo, von_and, von_or, von_not, von_eIf, von_call, von_callD, von_CB, von_isi, von_isis, von_pNo, von_pSo, von_sl, von_fmt, von_joined, von_runJ0, von_runJ1, von_M1, von_append, von_frz, von_iOf, von_iR1, von_iR2, von_lc, von_dct, so_some, so_none, so_bind, so_map, so_ite, on_ok, on_exc, on_bad, on_of, on_ite, on_iteB, on_runB, son_ite, son_nx, son_rt, son_bk, son_ct, son_exc, son_bad, po_nx, po_rt, po_bk, po_ct, po_ex, Po.fn, start0_eq, asB_bl, der_non, der_bl, der_int, der_str, der_tup, der_lst, der_dct, opAdd_int, opAdd_str, opAdd_tup, opAdd_lst, opSub_int, opMul_int, opDiv_int, opMod_int, opLt_int, opLe_int, opGt_int, opGe_int, opEq_int, opNe_int, opIx_tup, opIx_lst, at0, at1, at2, at3, at4, fInt_int, fLen_tup, fLen_lst, fLen_dct, fLen_str, gvName_ap, tYesV_ap, gvSub_var, Option.bind_some, Option.map_some, get0, getS, set0, setS, List.getElem?_cons_zero, List.getElem?_cons_succ, List.set_cons_zero, List.set_cons_succ, List.map_cons, List.map_nil, List.length_cons, List.length_nil, List.replicate_succ, List.replicate_zero, List.cons_append, List.nil_append, List.append_nil, Nat.reduceAdd, Nat.reduceSub, Int.reduceSub, Int.reduceNeg, Int.reduceAdd, Nat.reduceMul, Nat.reduceLeDiff, LN, true_and, and_true, if_true, if_false, Bool.not_true, Bool.not_false, Bool.false_eq_true, reduceIte, decide_true, decide_false, opEq_str, nil_b]
theorem why_er {c : Nat} (h : Cd c) (v : D) (S : Sto) : fs_law_why [none, some (.tup [.str (cdS c), v])] S = .rt (.tup [.str (cdS c), v]) S := by
  apply son_rt_eq
  unfold fs_law_why
  simp only [von_nil, von_pass, von_break, von_cont, von_retN, von_expr, von_ret, von_if, von_set, von_asg, von_par2, von_par3, von_for, von_var, von_C, von_aNil, von_aCons, von_tup, von_lst, von_lstM, von_opE, von_tV, von_chain, von_tAn, von_tOr, von_tNo, von_and, von_or, von_not, von_eIf, von_call, von_callD, von_CB, von_isi, von_isis, von_pNo, von_pSo, von_sl, von_fmt, von_joined, von_runJ0, von_runJ1, von_M1, von_append, von_frz, von_iOf, von_iR1, von_iR2, von_lc, von_dct, so_some, so_none, so_bind, so_map, so_ite, on_ok, on_exc, on_bad, on_of, on_ite, on_iteB, on_runB, son_ite, son_nx, son_rt, son_bk, son_ct, son_exc, son_bad, po_nx, po_rt, po_bk, po_ct, po_ex, Po.fn, start0_eq, asB_bl, der_non, der_bl, der_int, der_str, der_tup, der_lst, der_dct, opAdd_int, opAdd_str, opAdd_tup, opAdd_lst, opSub_int, opMul_int, opDiv_int, opMod_int, opLt_int, opLe_int, opGt_int, opGe_int, opEq_int, opNe_int, opIx_tup, opIx_lst, at0, at1, at2, at3, at4, fInt_int, fLen_tup, fLen_lst, fLen_dct, fLen_str, gvName_ap, tYesV_ap, gvSub_var, Option.bind_some, Option.map_some, get0, getS, set0, setS, List.getElem?_cons_zero, List.getElem?_cons_succ, List.set_cons_zero, List.set_cons_succ, List.map_cons, List.map_nil, List.length_cons, List.length_nil, List.replicate_succ, List.replicate_zero, List.cons_append, List.nil_append, List.append_nil, Nat.reduceAdd, Nat.reduceSub, Int.reduceSub, Int.reduceNeg, Int.reduceAdd, Nat.reduceMul, Nat.reduceLeDiff, LN, true_and, and_true, if_true, if_false, Bool.not_true, Bool.not_false, Bool.false_eq_true, reduceIte, decide_true, decide_false, opEq_str, cd_nil h]
def dueD : Er → D
  | none => .tup []
  | some (c, v) => .tup [.str (cdS c), v]
theorem why_on {th : Sto → Ret D} {S : Sto} {K : D → Sto → Prop} {E : Exc → Sto → Prop}
    (h : (th S).oo (fun _ S1 => K (.tup []) S1) (fun x S1 => ∃ c v, Cd c ∧ x = excD c (cdS c) ["value"] [v] ∧ K (.tup [.str (cdS c), v]) S1)) : (m_law_why th S).oo K E := by
  unfold m_law_why mWhy m_law_try mTry
  cases e : th S with
  | ok d S1 =>
    rw [e, on_ok] at h
    show (match fs_law_why [none, some (.tup [.str "", d])] S1 with | .rt d S2 => Ret.ok d S2 | _ => .bad).oo K E
    rw [why_ok, on_ok]
    exact h
  | exc x S1 =>
    rw [e, on_exc] at h
    obtain ⟨c, v, hc, rfl, hk⟩ := h
    rw [excD_fld]
    dsimp only
    rw [if_pos (cd_has hc), try_rt hc]
    dsimp only
    rw [why_er hc]
    dsimp only
    rw [on_ok]
    exact hk
  | bad => rw [e, on_bad] at h; exact h.elim
theorem gvTup_ap (n : Nat) (Gs : Gvs) (ds : List D) (e : DL.Env) (S : Sto) : gvTup n Gs (.tup ds) e S = if ds.length = n then Gs ds e S else none := rfl
theorem gvCons_ap (G : Gv) (Gs : Gvs) (d : D) (ds : List D) (e : DL.Env) (S : Sto) : gvCons G Gs (d :: ds) e S = (G d e S).bind fun r => Gs ds r.1 r.2 := rfl
theorem gvNil_ap (e : DL.Env) (S : Sto) : gvNil [] e S = some (e, S) := rfl
theorem ww : (("work" : Str) == ("work" : Str)) = true := by rfl
theorem hw : (("hire" : Str) == ("work" : Str)) = false := by rfl
theorem due_work {a b s t h p r : D} (ha : vlB a = true) (hb : vlB b = true) (hs : vlB s = true) (ht : vlB t = true) (hh : vlB h = true) (hp : vlB p = true) (hr : vlB r = true) (S : Sto) :
    m_law_due [.tup [.str "work", a, b, r, s, t, h, p]] S = .ok (dueD (erW a b s t h p r)) S := by
  apply on_eq
  unfold m_law_due fb_law_due
  rw [on_runB]
  refine seq_i fun R hR => ?_
  simp only [von_nil, von_pass, von_break, von_cont, von_retN, von_expr, von_ret, von_if, von_set, von_asg, von_par2, von_par3, von_for, von_var, von_C, von_aNil, von_aCons, von_tup, von_lst, von_lstM, von_opE, von_tV, von_chain, von_tAn, von_tOr, von_tNo, von_and, von_or, von_not, von_eIf, von_call, von_callD, von_CB, von_isi, von_isis, von_pNo, von_pSo, von_sl, von_fmt, von_joined, von_runJ0, von_runJ1, von_M1, von_append, von_frz, von_iOf, von_iR1, von_iR2, von_lc, von_dct, so_some, so_none, so_bind, so_map, so_ite, on_ok, on_exc, on_bad, on_of, on_ite, on_iteB, on_runB, son_ite, son_nx, son_rt, son_bk, son_ct, son_exc, son_bad, po_nx, po_rt, po_bk, po_ct, po_ex, Po.fn, start0_eq, asB_bl, der_non, der_bl, der_int, der_str, der_tup, der_lst, der_dct, opAdd_int, opAdd_str, opAdd_tup, opAdd_lst, opSub_int, opMul_int, opDiv_int, opMod_int, opLt_int, opLe_int, opGt_int, opGe_int, opEq_int, opNe_int, opIx_tup, opIx_lst, at0, at1, at2, at3, at4, fInt_int, fLen_tup, fLen_lst, fLen_dct, fLen_str, gvName_ap, tYesV_ap, gvSub_var, Option.bind_some, Option.map_some, get0, getS, set0, setS, List.getElem?_cons_zero, List.getElem?_cons_succ, List.set_cons_zero, List.set_cons_succ, List.map_cons, List.map_nil, List.length_cons, List.length_nil, List.replicate_succ, List.replicate_zero, List.cons_append, List.nil_append, List.append_nil, Nat.reduceAdd, Nat.reduceSub, Int.reduceSub, Int.reduceNeg, Int.reduceAdd, Nat.reduceMul, Nat.reduceLeDiff, LN, true_and, and_true, if_true, if_false, Bool.not_true, Bool.not_false, Bool.false_eq_true, reduceIte, decide_true, decide_false, gvTup_ap, gvCons_ap, gvNil_ap]
  refine hR _ _ ?_
  clear hR R
  refine seq_i fun R hR => ?_
  cases e1 : pName a with
  | false =>
    simp only [von_nil, von_pass, von_break, von_cont, von_retN, von_expr, von_ret, von_if, von_set, von_asg, von_par2, von_par3, von_for, von_var, von_C, von_aNil, von_aCons, von_tup, von_lst, von_lstM, von_opE, von_tV, von_chain, von_tAn, von_tOr, von_tNo, von_and, von_or, von_not, von_eIf, von_call, von_callD, von_CB, von_isi, von_isis, von_pNo, von_pSo, von_sl, von_fmt, von_joined, von_runJ0, von_runJ1, von_M1, von_append, von_frz, von_iOf, von_iR1, von_iR2, von_lc, von_dct, so_some, so_none, so_bind, so_map, so_ite, on_ok, on_exc, on_bad, on_of, on_ite, on_iteB, on_runB, son_ite, son_nx, son_rt, son_bk, son_ct, son_exc, son_bad, po_nx, po_rt, po_bk, po_ct, po_ex, Po.fn, start0_eq, asB_bl, der_non, der_bl, der_int, der_str, der_tup, der_lst, der_dct, opAdd_int, opAdd_str, opAdd_tup, opAdd_lst, opSub_int, opMul_int, opDiv_int, opMod_int, opLt_int, opLe_int, opGt_int, opGe_int, opEq_int, opNe_int, opIx_tup, opIx_lst, at0, at1, at2, at3, at4, fInt_int, fLen_tup, fLen_lst, fLen_dct, fLen_str, gvName_ap, tYesV_ap, gvSub_var, Option.bind_some, Option.map_some, get0, getS, set0, setS, List.getElem?_cons_zero, List.getElem?_cons_succ, List.set_cons_zero, List.set_cons_succ, List.map_cons, List.map_nil, List.length_cons, List.length_nil, List.replicate_succ, List.replicate_zero, List.cons_append, List.nil_append, List.append_nil, Nat.reduceAdd, Nat.reduceSub, Int.reduceSub, Int.reduceNeg, Int.reduceAdd, Nat.reduceMul, Nat.reduceLeDiff, LN, true_and, and_true, if_true, if_false, Bool.not_true, Bool.not_false, Bool.false_eq_true, reduceIte, decide_true, decide_false, any_tup, forL_cons, forL_nil, call_eq (vlB_Sc ha), e1, dueD, cdS, erW, erN, erT, erR, ckE, Bool.true_and, Bool.false_and]
  | true =>
    cases e2 : pName b with
    | false =>
      simp only [von_nil, von_pass, von_break, von_cont, von_retN, von_expr, von_ret, von_if, von_set, von_asg, von_par2, von_par3, von_for, von_var, von_C, von_aNil, von_aCons, von_tup, von_lst, von_lstM, von_opE, von_tV, von_chain, von_tAn, von_tOr, von_tNo, von_and, von_or, von_not, von_eIf, von_call, von_callD, von_CB, von_isi, von_isis, von_pNo, von_pSo, von_sl, von_fmt, von_joined, von_runJ0, von_runJ1, von_M1, von_append, von_frz, von_iOf, von_iR1, von_iR2, von_lc, von_dct, so_some, so_none, so_bind, so_map, so_ite, on_ok, on_exc, on_bad, on_of, on_ite, on_iteB, on_runB, son_ite, son_nx, son_rt, son_bk, son_ct, son_exc, son_bad, po_nx, po_rt, po_bk, po_ct, po_ex, Po.fn, start0_eq, asB_bl, der_non, der_bl, der_int, der_str, der_tup, der_lst, der_dct, opAdd_int, opAdd_str, opAdd_tup, opAdd_lst, opSub_int, opMul_int, opDiv_int, opMod_int, opLt_int, opLe_int, opGt_int, opGe_int, opEq_int, opNe_int, opIx_tup, opIx_lst, at0, at1, at2, at3, at4, fInt_int, fLen_tup, fLen_lst, fLen_dct, fLen_str, gvName_ap, tYesV_ap, gvSub_var, Option.bind_some, Option.map_some, get0, getS, set0, setS, List.getElem?_cons_zero, List.getElem?_cons_succ, List.set_cons_zero, List.set_cons_succ, List.map_cons, List.map_nil, List.length_cons, List.length_nil, List.replicate_succ, List.replicate_zero, List.cons_append, List.nil_append, List.append_nil, Nat.reduceAdd, Nat.reduceSub, Int.reduceSub, Int.reduceNeg, Int.reduceAdd, Nat.reduceMul, Nat.reduceLeDiff, LN, true_and, and_true, if_true, if_false, Bool.not_true, Bool.not_false, Bool.false_eq_true, reduceIte, decide_true, decide_false, any_tup, forL_cons, forL_nil, call_eq (vlB_Sc ha), call_eq (vlB_Sc hb), e1, e2, dueD, cdS, erW, erN, erT, erR, ckE, Bool.true_and, Bool.false_and]
    | true =>
      simp only [von_nil, von_pass, von_break, von_cont, von_retN, von_expr, von_ret, von_if, von_set, von_asg, von_par2, von_par3, von_for, von_var, von_C, von_aNil, von_aCons, von_tup, von_lst, von_lstM, von_opE, von_tV, von_chain, von_tAn, von_tOr, von_tNo, von_and, von_or, von_not, von_eIf, von_call, von_callD, von_CB, von_isi, von_isis, von_pNo, von_pSo, von_sl, von_fmt, von_joined, von_runJ0, von_runJ1, von_M1, von_append, von_frz, von_iOf, von_iR1, von_iR2, von_lc, von_dct, so_some, so_none, so_bind, so_map, so_ite, on_ok, on_exc, on_bad, on_of, on_ite, on_iteB, on_runB, son_ite, son_nx, son_rt, son_bk, son_ct, son_exc, son_bad, po_nx, po_rt, po_bk, po_ct, po_ex, Po.fn, start0_eq, asB_bl, der_non, der_bl, der_int, der_str, der_tup, der_lst, der_dct, opAdd_int, opAdd_str, opAdd_tup, opAdd_lst, opSub_int, opMul_int, opDiv_int, opMod_int, opLt_int, opLe_int, opGt_int, opGe_int, opEq_int, opNe_int, opIx_tup, opIx_lst, at0, at1, at2, at3, at4, fInt_int, fLen_tup, fLen_lst, fLen_dct, fLen_str, gvName_ap, tYesV_ap, gvSub_var, Option.bind_some, Option.map_some, get0, getS, set0, setS, List.getElem?_cons_zero, List.getElem?_cons_succ, List.set_cons_zero, List.set_cons_succ, List.map_cons, List.map_nil, List.length_cons, List.length_nil, List.replicate_succ, List.replicate_zero, List.cons_append, List.nil_append, List.append_nil, Nat.reduceAdd, Nat.reduceSub, Int.reduceSub, Int.reduceNeg, Int.reduceAdd, Nat.reduceMul, Nat.reduceLeDiff, LN, true_and, and_true, if_true, if_false, Bool.not_true, Bool.not_false, Bool.false_eq_true, reduceIte, decide_true, decide_false, any_tup, forL_cons, forL_nil, call_eq (vlB_Sc ha), call_eq (vlB_Sc hb), e1, e2, ckE]
      refine hR _ _ ?_
      clear hR R
      refine seq_i fun R hR => ?_
      cases e3 : pStd s with
      | false =>
        simp only [von_nil, von_pass, von_break, von_cont, von_retN, von_expr, von_ret, von_if, von_set, von_asg, von_par2, von_par3, von_for, von_var, von_C, von_aNil, von_aCons, von_tup, von_lst, von_lstM, von_opE, von_tV, von_chain, von_tAn, von_tOr, von_tNo, von_and, von_or, von_not, von_eIf, von_call, von_callD, von_CB, von_isi, von_isis, von_pNo, von_pSo, von_sl, von_fmt, von_joined, von_runJ0, von_runJ1, von_M1, von_append, von_frz, von_iOf, von_iR1, von_iR2, von_lc, von_dct, so_some, so_none, so_bind, so_map, so_ite, on_ok, on_exc, on_bad, on_of, on_ite, on_iteB, on_runB, son_ite, son_nx, son_rt, son_bk, son_ct, son_exc, son_bad, po_nx, po_rt, po_bk, po_ct, po_ex, Po.fn, start0_eq, asB_bl, der_non, der_bl, der_int, der_str, der_tup, der_lst, der_dct, opAdd_int, opAdd_str, opAdd_tup, opAdd_lst, opSub_int, opMul_int, opDiv_int, opMod_int, opLt_int, opLe_int, opGt_int, opGe_int, opEq_int, opNe_int, opIx_tup, opIx_lst, at0, at1, at2, at3, at4, fInt_int, fLen_tup, fLen_lst, fLen_dct, fLen_str, gvName_ap, tYesV_ap, gvSub_var, Option.bind_some, Option.map_some, get0, getS, set0, setS, List.getElem?_cons_zero, List.getElem?_cons_succ, List.set_cons_zero, List.set_cons_succ, List.map_cons, List.map_nil, List.length_cons, List.length_nil, List.replicate_succ, List.replicate_zero, List.cons_append, List.nil_append, List.append_nil, Nat.reduceAdd, Nat.reduceSub, Int.reduceSub, Int.reduceNeg, Int.reduceAdd, Nat.reduceMul, Nat.reduceLeDiff, LN, true_and, and_true, if_true, if_false, Bool.not_true, Bool.not_false, Bool.false_eq_true, reduceIte, decide_true, decide_false, opEq_str, ww, spot_eq (vlB_Val hs), e3, dueD, cdS, erW, erN, erT, erR, ckE, Bool.true_and, Bool.false_and, e1, e2]
      | true =>
        simp only [von_nil, von_pass, von_break, von_cont, von_retN, von_expr, von_ret, von_if, von_set, von_asg, von_par2, von_par3, von_for, von_var, von_C, von_aNil, von_aCons, von_tup, von_lst, von_lstM, von_opE, von_tV, von_chain, von_tAn, von_tOr, von_tNo, von_and, von_or, von_not, von_eIf, von_call, von_callD, von_CB, von_isi, von_isis, von_pNo, von_pSo, von_sl, von_fmt, von_joined, von_runJ0, von_runJ1, von_M1, von_append, von_frz, von_iOf, von_iR1, von_iR2, von_lc, von_dct, so_some, so_none, so_bind, so_map, so_ite, on_ok, on_exc, on_bad, on_of, on_ite, on_iteB, on_runB, son_ite, son_nx, son_rt, son_bk, son_ct, son_exc, son_bad, po_nx, po_rt, po_bk, po_ct, po_ex, Po.fn, start0_eq, asB_bl, der_non, der_bl, der_int, der_str, der_tup, der_lst, der_dct, opAdd_int, opAdd_str, opAdd_tup, opAdd_lst, opSub_int, opMul_int, opDiv_int, opMod_int, opLt_int, opLe_int, opGt_int, opGe_int, opEq_int, opNe_int, opIx_tup, opIx_lst, at0, at1, at2, at3, at4, fInt_int, fLen_tup, fLen_lst, fLen_dct, fLen_str, gvName_ap, tYesV_ap, gvSub_var, Option.bind_some, Option.map_some, get0, getS, set0, setS, List.getElem?_cons_zero, List.getElem?_cons_succ, List.set_cons_zero, List.set_cons_succ, List.map_cons, List.map_nil, List.length_cons, List.length_nil, List.replicate_succ, List.replicate_zero, List.cons_append, List.nil_append, List.append_nil, Nat.reduceAdd, Nat.reduceSub, Int.reduceSub, Int.reduceNeg, Int.reduceAdd, Nat.reduceMul, Nat.reduceLeDiff, LN, true_and, and_true, if_true, if_false, Bool.not_true, Bool.not_false, Bool.false_eq_true, reduceIte, decide_true, decide_false, opEq_str, ww, spot_eq (vlB_Val hs), e3]
        refine hR _ _ ?_
        clear hR R
        obtain ⟨s1, j, rfl⟩ := pStd_shape e3
        refine seq_i fun R hR => ?_
        cases e4 : pStd t with
        | false =>
          simp only [von_nil, von_pass, von_break, von_cont, von_retN, von_expr, von_ret, von_if, von_set, von_asg, von_par2, von_par3, von_for, von_var, von_C, von_aNil, von_aCons, von_tup, von_lst, von_lstM, von_opE, von_tV, von_chain, von_tAn, von_tOr, von_tNo, von_and, von_or, von_not, von_eIf, von_call, von_callD, von_CB, von_isi, von_isis, von_pNo, von_pSo, von_sl, von_fmt, von_joined, von_runJ0, von_runJ1, von_M1, von_append, von_frz, von_iOf, von_iR1, von_iR2, von_lc, von_dct, so_some, so_none, so_bind, so_map, so_ite, on_ok, on_exc, on_bad, on_of, on_ite, on_iteB, on_runB, son_ite, son_nx, son_rt, son_bk, son_ct, son_exc, son_bad, po_nx, po_rt, po_bk, po_ct, po_ex, Po.fn, start0_eq, asB_bl, der_non, der_bl, der_int, der_str, der_tup, der_lst, der_dct, opAdd_int, opAdd_str, opAdd_tup, opAdd_lst, opSub_int, opMul_int, opDiv_int, opMod_int, opLt_int, opLe_int, opGt_int, opGe_int, opEq_int, opNe_int, opIx_tup, opIx_lst, at0, at1, at2, at3, at4, fInt_int, fLen_tup, fLen_lst, fLen_dct, fLen_str, gvName_ap, tYesV_ap, gvSub_var, Option.bind_some, Option.map_some, get0, getS, set0, setS, List.getElem?_cons_zero, List.getElem?_cons_succ, List.set_cons_zero, List.set_cons_succ, List.map_cons, List.map_nil, List.length_cons, List.length_nil, List.replicate_succ, List.replicate_zero, List.cons_append, List.nil_append, List.append_nil, Nat.reduceAdd, Nat.reduceSub, Int.reduceSub, Int.reduceNeg, Int.reduceAdd, Nat.reduceMul, Nat.reduceLeDiff, LN, true_and, and_true, if_true, if_false, Bool.not_true, Bool.not_false, Bool.false_eq_true, reduceIte, decide_true, decide_false, spot_eq (vlB_Val ht), e4, dueD, cdS, erW, erN, erT, erR, ckE, Bool.true_and, Bool.false_and, e1, e2, e3]
        | true =>
          obtain ⟨t1, i, rfl⟩ := pStd_shape e4
          have eh : hourOf (.tup [t1, .int i]) = i := rfl
          have ej : hourOf (.tup [s1, .int j]) = j := rfl
          by_cases hij : i ≤ j
          · simp only [von_nil, von_pass, von_break, von_cont, von_retN, von_expr, von_ret, von_if, von_set, von_asg, von_par2, von_par3, von_for, von_var, von_C, von_aNil, von_aCons, von_tup, von_lst, von_lstM, von_opE, von_tV, von_chain, von_tAn, von_tOr, von_tNo, von_and, von_or, von_not, von_eIf, von_call, von_callD, von_CB, von_isi, von_isis, von_pNo, von_pSo, von_sl, von_fmt, von_joined, von_runJ0, von_runJ1, von_M1, von_append, von_frz, von_iOf, von_iR1, von_iR2, von_lc, von_dct, so_some, so_none, so_bind, so_map, so_ite, on_ok, on_exc, on_bad, on_of, on_ite, on_iteB, on_runB, son_ite, son_nx, son_rt, son_bk, son_ct, son_exc, son_bad, po_nx, po_rt, po_bk, po_ct, po_ex, Po.fn, start0_eq, asB_bl, der_non, der_bl, der_int, der_str, der_tup, der_lst, der_dct, opAdd_int, opAdd_str, opAdd_tup, opAdd_lst, opSub_int, opMul_int, opDiv_int, opMod_int, opLt_int, opLe_int, opGt_int, opGe_int, opEq_int, opNe_int, opIx_tup, opIx_lst, at0, at1, at2, at3, at4, fInt_int, fLen_tup, fLen_lst, fLen_dct, fLen_str, gvName_ap, tYesV_ap, gvSub_var, Option.bind_some, Option.map_some, get0, getS, set0, setS, List.getElem?_cons_zero, List.getElem?_cons_succ, List.set_cons_zero, List.set_cons_succ, List.map_cons, List.map_nil, List.length_cons, List.length_nil, List.replicate_succ, List.replicate_zero, List.cons_append, List.nil_append, List.append_nil, Nat.reduceAdd, Nat.reduceSub, Int.reduceSub, Int.reduceNeg, Int.reduceAdd, Nat.reduceMul, Nat.reduceLeDiff, LN, true_and, and_true, if_true, if_false, Bool.not_true, Bool.not_false, Bool.false_eq_true, reduceIte, decide_true, decide_false, opEq_str, ww, spot_eq (vlB_Val ht), e4, eh, ej, hij, dueD, cdS, erW, erN, erT, erR, ckE, Bool.true_and, Bool.false_and, e1, e2, e3]
          · simp only [von_nil, von_pass, von_break, von_cont, von_retN, von_expr, von_ret, von_if, von_set, von_asg, von_par2, von_par3, von_for, von_var, von_C, von_aNil, von_aCons, von_tup, von_lst, von_lstM, von_opE, von_tV, von_chain, von_tAn, von_tOr, von_tNo, von_and, von_or, von_not, von_eIf, von_call, von_callD, von_CB, von_isi, von_isis, von_pNo, von_pSo, von_sl, von_fmt, von_joined, von_runJ0, von_runJ1, von_M1, von_append, von_frz, von_iOf, von_iR1, von_iR2, von_lc, von_dct, so_some, so_none, so_bind, so_map, so_ite, on_ok, on_exc, on_bad, on_of, on_ite, on_iteB, on_runB, son_ite, son_nx, son_rt, son_bk, son_ct, son_exc, son_bad, po_nx, po_rt, po_bk, po_ct, po_ex, Po.fn, start0_eq, asB_bl, der_non, der_bl, der_int, der_str, der_tup, der_lst, der_dct, opAdd_int, opAdd_str, opAdd_tup, opAdd_lst, opSub_int, opMul_int, opDiv_int, opMod_int, opLt_int, opLe_int, opGt_int, opGe_int, opEq_int, opNe_int, opIx_tup, opIx_lst, at0, at1, at2, at3, at4, fInt_int, fLen_tup, fLen_lst, fLen_dct, fLen_str, gvName_ap, tYesV_ap, gvSub_var, Option.bind_some, Option.map_some, get0, getS, set0, setS, List.getElem?_cons_zero, List.getElem?_cons_succ, List.set_cons_zero, List.set_cons_succ, List.map_cons, List.map_nil, List.length_cons, List.length_nil, List.replicate_succ, List.replicate_zero, List.cons_append, List.nil_append, List.append_nil, Nat.reduceAdd, Nat.reduceSub, Int.reduceSub, Int.reduceNeg, Int.reduceAdd, Nat.reduceMul, Nat.reduceLeDiff, LN, true_and, and_true, if_true, if_false, Bool.not_true, Bool.not_false, Bool.false_eq_true, reduceIte, decide_true, decide_false, opEq_str, ww, spot_eq (vlB_Val ht), e4, eh, ej, hij, Bool.true_and]
            refine hR _ _ ?_
            clear hR R
            refine seq_i fun R hR => ?_
            cases e5 : pNum 1 99 h with
            | false => simp only [von_nil, von_pass, von_break, von_cont, von_retN, von_expr, von_ret, von_if, von_set, von_asg, von_par2, von_par3, von_for, von_var, von_C, von_aNil, von_aCons, von_tup, von_lst, von_lstM, von_opE, von_tV, von_chain, von_tAn, von_tOr, von_tNo, von_and, von_or, von_not, von_eIf, von_call, von_callD, von_CB, von_isi, von_isis, von_pNo, von_pSo, von_sl, von_fmt, von_joined, von_runJ0, von_runJ1, von_M1, von_append, von_frz, von_iOf, von_iR1, von_iR2, von_lc, von_dct, so_some, so_none, so_bind, so_map, so_ite, on_ok, on_exc, on_bad, on_of, on_ite, on_iteB, on_runB, son_ite, son_nx, son_rt, son_bk, son_ct, son_exc, son_bad, po_nx, po_rt, po_bk, po_ct, po_ex, Po.fn, start0_eq, asB_bl, der_non, der_bl, der_int, der_str, der_tup, der_lst, der_dct, opAdd_int, opAdd_str, opAdd_tup, opAdd_lst, opSub_int, opMul_int, opDiv_int, opMod_int, opLt_int, opLe_int, opGt_int, opGe_int, opEq_int, opNe_int, opIx_tup, opIx_lst, at0, at1, at2, at3, at4, fInt_int, fLen_tup, fLen_lst, fLen_dct, fLen_str, gvName_ap, tYesV_ap, gvSub_var, Option.bind_some, Option.map_some, get0, getS, set0, setS, List.getElem?_cons_zero, List.getElem?_cons_succ, List.set_cons_zero, List.set_cons_succ, List.map_cons, List.map_nil, List.length_cons, List.length_nil, List.replicate_succ, List.replicate_zero, List.cons_append, List.nil_append, List.append_nil, Nat.reduceAdd, Nat.reduceSub, Int.reduceSub, Int.reduceNeg, Int.reduceAdd, Nat.reduceMul, Nat.reduceLeDiff, LN, true_and, and_true, if_true, if_false, Bool.not_true, Bool.not_false, Bool.false_eq_true, reduceIte, decide_true, decide_false, any_tup, forL_cons, forL_nil, gvTup_ap, gvCons_ap, gvNil_ap, count_eq (vlB_Sc hh), e5, dueD, cdS, erW, erN, erT, erR, ckE, Bool.true_and, Bool.false_and, e1, e2, e3, e4, eh, ej, hij]
            | true =>
              cases e6 : pNum 0 999 p with
              | false => simp only [von_nil, von_pass, von_break, von_cont, von_retN, von_expr, von_ret, von_if, von_set, von_asg, von_par2, von_par3, von_for, von_var, von_C, von_aNil, von_aCons, von_tup, von_lst, von_lstM, von_opE, von_tV, von_chain, von_tAn, von_tOr, von_tNo, von_and, von_or, von_not, von_eIf, von_call, von_callD, von_CB, von_isi, von_isis, von_pNo, von_pSo, von_sl, von_fmt, von_joined, von_runJ0, von_runJ1, von_M1, von_append, von_frz, von_iOf, von_iR1, von_iR2, von_lc, von_dct, so_some, so_none, so_bind, so_map, so_ite, on_ok, on_exc, on_bad, on_of, on_ite, on_iteB, on_runB, son_ite, son_nx, son_rt, son_bk, son_ct, son_exc, son_bad, po_nx, po_rt, po_bk, po_ct, po_ex, Po.fn, start0_eq, asB_bl, der_non, der_bl, der_int, der_str, der_tup, der_lst, der_dct, opAdd_int, opAdd_str, opAdd_tup, opAdd_lst, opSub_int, opMul_int, opDiv_int, opMod_int, opLt_int, opLe_int, opGt_int, opGe_int, opEq_int, opNe_int, opIx_tup, opIx_lst, at0, at1, at2, at3, at4, fInt_int, fLen_tup, fLen_lst, fLen_dct, fLen_str, gvName_ap, tYesV_ap, gvSub_var, Option.bind_some, Option.map_some, get0, getS, set0, setS, List.getElem?_cons_zero, List.getElem?_cons_succ, List.set_cons_zero, List.set_cons_succ, List.map_cons, List.map_nil, List.length_cons, List.length_nil, List.replicate_succ, List.replicate_zero, List.cons_append, List.nil_append, List.append_nil, Nat.reduceAdd, Nat.reduceSub, Int.reduceSub, Int.reduceNeg, Int.reduceAdd, Nat.reduceMul, Nat.reduceLeDiff, LN, true_and, and_true, if_true, if_false, Bool.not_true, Bool.not_false, Bool.false_eq_true, reduceIte, decide_true, decide_false, any_tup, forL_cons, forL_nil, gvTup_ap, gvCons_ap, gvNil_ap, count_eq (vlB_Sc hh), count_eq (vlB_Sc hp), e5, e6, dueD, cdS, erW, erN, erT, erR, ckE, Bool.true_and, Bool.false_and, e1, e2, e3, e4, eh, ej, hij]
              | true =>
                cases e7 : pNum 0 99 r with
                | false => simp only [von_nil, von_pass, von_break, von_cont, von_retN, von_expr, von_ret, von_if, von_set, von_asg, von_par2, von_par3, von_for, von_var, von_C, von_aNil, von_aCons, von_tup, von_lst, von_lstM, von_opE, von_tV, von_chain, von_tAn, von_tOr, von_tNo, von_and, von_or, von_not, von_eIf, von_call, von_callD, von_CB, von_isi, von_isis, von_pNo, von_pSo, von_sl, von_fmt, von_joined, von_runJ0, von_runJ1, von_M1, von_append, von_frz, von_iOf, von_iR1, von_iR2, von_lc, von_dct, so_some, so_none, so_bind, so_map, so_ite, on_ok, on_exc, on_bad, on_of, on_ite, on_iteB, on_runB, son_ite, son_nx, son_rt, son_bk, son_ct, son_exc, son_bad, po_nx, po_rt, po_bk, po_ct, po_ex, Po.fn, start0_eq, asB_bl, der_non, der_bl, der_int, der_str, der_tup, der_lst, der_dct, opAdd_int, opAdd_str, opAdd_tup, opAdd_lst, opSub_int, opMul_int, opDiv_int, opMod_int, opLt_int, opLe_int, opGt_int, opGe_int, opEq_int, opNe_int, opIx_tup, opIx_lst, at0, at1, at2, at3, at4, fInt_int, fLen_tup, fLen_lst, fLen_dct, fLen_str, gvName_ap, tYesV_ap, gvSub_var, Option.bind_some, Option.map_some, get0, getS, set0, setS, List.getElem?_cons_zero, List.getElem?_cons_succ, List.set_cons_zero, List.set_cons_succ, List.map_cons, List.map_nil, List.length_cons, List.length_nil, List.replicate_succ, List.replicate_zero, List.cons_append, List.nil_append, List.append_nil, Nat.reduceAdd, Nat.reduceSub, Int.reduceSub, Int.reduceNeg, Int.reduceAdd, Nat.reduceMul, Nat.reduceLeDiff, LN, true_and, and_true, if_true, if_false, Bool.not_true, Bool.not_false, Bool.false_eq_true, reduceIte, decide_true, decide_false, any_tup, forL_cons, forL_nil, gvTup_ap, gvCons_ap, gvNil_ap, count_eq (vlB_Sc hh), count_eq (vlB_Sc hp), count_eq (vlB_Sc hr), e5, e6, e7, dueD, cdS, erW, erN, erT, erR, ckE, Bool.true_and, Bool.false_and, e1, e2, e3, e4, eh, ej, hij]
                | true =>
                  simp only [von_nil, von_pass, von_break, von_cont, von_retN, von_expr, von_ret, von_if, von_set, von_asg, von_par2, von_par3, von_for, von_var, von_C, von_aNil, von_aCons, von_tup, von_lst, von_lstM, von_opE, von_tV, von_chain, von_tAn, von_tOr, von_tNo, von_and, von_or, von_not, von_eIf, von_call, von_callD, von_CB, von_isi, von_isis, von_pNo, von_pSo, von_sl, von_fmt, von_joined, von_runJ0, von_runJ1, von_M1, von_append, von_frz, von_iOf, von_iR1, von_iR2, von_lc, von_dct, so_some, so_none, so_bind, so_map, so_ite, on_ok, on_exc, on_bad, on_of, on_ite, on_iteB, on_runB, son_ite, son_nx, son_rt, son_bk, son_ct, son_exc, son_bad, po_nx, po_rt, po_bk, po_ct, po_ex, Po.fn, start0_eq, asB_bl, der_non, der_bl, der_int, der_str, der_tup, der_lst, der_dct, opAdd_int, opAdd_str, opAdd_tup, opAdd_lst, opSub_int, opMul_int, opDiv_int, opMod_int, opLt_int, opLe_int, opGt_int, opGe_int, opEq_int, opNe_int, opIx_tup, opIx_lst, at0, at1, at2, at3, at4, fInt_int, fLen_tup, fLen_lst, fLen_dct, fLen_str, gvName_ap, tYesV_ap, gvSub_var, Option.bind_some, Option.map_some, get0, getS, set0, setS, List.getElem?_cons_zero, List.getElem?_cons_succ, List.set_cons_zero, List.set_cons_succ, List.map_cons, List.map_nil, List.length_cons, List.length_nil, List.replicate_succ, List.replicate_zero, List.cons_append, List.nil_append, List.append_nil, Nat.reduceAdd, Nat.reduceSub, Int.reduceSub, Int.reduceNeg, Int.reduceAdd, Nat.reduceMul, Nat.reduceLeDiff, LN, true_and, and_true, if_true, if_false, Bool.not_true, Bool.not_false, Bool.false_eq_true, reduceIte, decide_true, decide_false, any_tup, forL_cons, forL_nil, gvTup_ap, gvCons_ap, gvNil_ap, count_eq (vlB_Sc hh), count_eq (vlB_Sc hp), count_eq (vlB_Sc hr), e5, e6, e7]
                  refine hR _ _ ?_
                  simp only [von_nil, von_pass, von_break, von_cont, von_retN, von_expr, von_ret, von_if, von_set, von_asg, von_par2, von_par3, von_for, von_var, von_C, von_aNil, von_aCons, von_tup, von_lst, von_lstM, von_opE, von_tV, von_chain, von_tAn, von_tOr, von_tNo, von_and, von_or, von_not, von_eIf, von_call, von_callD, von_CB, von_isi, von_isis, von_pNo, von_pSo, von_sl, von_fmt, von_joined, von_runJ0, von_runJ1, von_M1, von_append, von_frz, von_iOf, von_iR1, von_iR2, von_lc, von_dct, so_some, so_none, so_bind, so_map, so_ite, on_ok, on_exc, on_bad, on_of, on_ite, on_iteB, on_runB, son_ite, son_nx, son_rt, son_bk, son_ct, son_exc, son_bad, po_nx, po_rt, po_bk, po_ct, po_ex, Po.fn, start0_eq, asB_bl, der_non, der_bl, der_int, der_str, der_tup, der_lst, der_dct, opAdd_int, opAdd_str, opAdd_tup, opAdd_lst, opSub_int, opMul_int, opDiv_int, opMod_int, opLt_int, opLe_int, opGt_int, opGe_int, opEq_int, opNe_int, opIx_tup, opIx_lst, at0, at1, at2, at3, at4, fInt_int, fLen_tup, fLen_lst, fLen_dct, fLen_str, gvName_ap, tYesV_ap, gvSub_var, Option.bind_some, Option.map_some, get0, getS, set0, setS, List.getElem?_cons_zero, List.getElem?_cons_succ, List.set_cons_zero, List.set_cons_succ, List.map_cons, List.map_nil, List.length_cons, List.length_nil, List.replicate_succ, List.replicate_zero, List.cons_append, List.nil_append, List.append_nil, Nat.reduceAdd, Nat.reduceSub, Int.reduceSub, Int.reduceNeg, Int.reduceAdd, Nat.reduceMul, Nat.reduceLeDiff, LN, true_and, and_true, if_true, if_false, Bool.not_true, Bool.not_false, Bool.false_eq_true, reduceIte, decide_true, decide_false, dueD, erW, erN, erT, erR, ckE, Bool.true_and, Bool.false_and, e1, e2, e3, e4, e5, e6, e7, cdS, eh, ej, hij]
theorem due_hire {a b s t h p r : D} (ha : vlB a = true) (hb : vlB b = true) (ht : vlB t = true) (hh : vlB h = true) (hp : vlB p = true) (hr : vlB r = true) (S : Sto) :
    m_law_due [.tup [.str "hire", a, b, r, s, t, h, p]] S = .ok (dueD (erH a b t h p r)) S := by
  apply on_eq
  unfold m_law_due fb_law_due
  rw [on_runB]
  refine seq_i fun R hR => ?_
  simp only [von_nil, von_pass, von_break, von_cont, von_retN, von_expr, von_ret, von_if, von_set, von_asg, von_par2, von_par3, von_for, von_var, von_C, von_aNil, von_aCons, von_tup, von_lst, von_lstM, von_opE, von_tV, von_chain, von_tAn, von_tOr, von_tNo, von_and, von_or, von_not, von_eIf, von_call, von_callD, von_CB, von_isi, von_isis, von_pNo, von_pSo, von_sl, von_fmt, von_joined, von_runJ0, von_runJ1, von_M1, von_append, von_frz, von_iOf, von_iR1, von_iR2, von_lc, von_dct, so_some, so_none, so_bind, so_map, so_ite, on_ok, on_exc, on_bad, on_of, on_ite, on_iteB, on_runB, son_ite, son_nx, son_rt, son_bk, son_ct, son_exc, son_bad, po_nx, po_rt, po_bk, po_ct, po_ex, Po.fn, start0_eq, asB_bl, der_non, der_bl, der_int, der_str, der_tup, der_lst, der_dct, opAdd_int, opAdd_str, opAdd_tup, opAdd_lst, opSub_int, opMul_int, opDiv_int, opMod_int, opLt_int, opLe_int, opGt_int, opGe_int, opEq_int, opNe_int, opIx_tup, opIx_lst, at0, at1, at2, at3, at4, fInt_int, fLen_tup, fLen_lst, fLen_dct, fLen_str, gvName_ap, tYesV_ap, gvSub_var, Option.bind_some, Option.map_some, get0, getS, set0, setS, List.getElem?_cons_zero, List.getElem?_cons_succ, List.set_cons_zero, List.set_cons_succ, List.map_cons, List.map_nil, List.length_cons, List.length_nil, List.replicate_succ, List.replicate_zero, List.cons_append, List.nil_append, List.append_nil, Nat.reduceAdd, Nat.reduceSub, Int.reduceSub, Int.reduceNeg, Int.reduceAdd, Nat.reduceMul, Nat.reduceLeDiff, LN, true_and, and_true, if_true, if_false, Bool.not_true, Bool.not_false, Bool.false_eq_true, reduceIte, decide_true, decide_false, gvTup_ap, gvCons_ap, gvNil_ap]
  refine hR _ _ ?_
  clear hR R
  refine seq_i fun R hR => ?_
  cases e1 : pName a with
  | false =>
    simp only [von_nil, von_pass, von_break, von_cont, von_retN, von_expr, von_ret, von_if, von_set, von_asg, von_par2, von_par3, von_for, von_var, von_C, von_aNil, von_aCons, von_tup, von_lst, von_lstM, von_opE, von_tV, von_chain, von_tAn, von_tOr, von_tNo, von_and, von_or, von_not, von_eIf, von_call, von_callD, von_CB, von_isi, von_isis, von_pNo, von_pSo, von_sl, von_fmt, von_joined, von_runJ0, von_runJ1, von_M1, von_append, von_frz, von_iOf, von_iR1, von_iR2, von_lc, von_dct, so_some, so_none, so_bind, so_map, so_ite, on_ok, on_exc, on_bad, on_of, on_ite, on_iteB, on_runB, son_ite, son_nx, son_rt, son_bk, son_ct, son_exc, son_bad, po_nx, po_rt, po_bk, po_ct, po_ex, Po.fn, start0_eq, asB_bl, der_non, der_bl, der_int, der_str, der_tup, der_lst, der_dct, opAdd_int, opAdd_str, opAdd_tup, opAdd_lst, opSub_int, opMul_int, opDiv_int, opMod_int, opLt_int, opLe_int, opGt_int, opGe_int, opEq_int, opNe_int, opIx_tup, opIx_lst, at0, at1, at2, at3, at4, fInt_int, fLen_tup, fLen_lst, fLen_dct, fLen_str, gvName_ap, tYesV_ap, gvSub_var, Option.bind_some, Option.map_some, get0, getS, set0, setS, List.getElem?_cons_zero, List.getElem?_cons_succ, List.set_cons_zero, List.set_cons_succ, List.map_cons, List.map_nil, List.length_cons, List.length_nil, List.replicate_succ, List.replicate_zero, List.cons_append, List.nil_append, List.append_nil, Nat.reduceAdd, Nat.reduceSub, Int.reduceSub, Int.reduceNeg, Int.reduceAdd, Nat.reduceMul, Nat.reduceLeDiff, LN, true_and, and_true, if_true, if_false, Bool.not_true, Bool.not_false, Bool.false_eq_true, reduceIte, decide_true, decide_false, any_tup, forL_cons, forL_nil, call_eq (vlB_Sc ha), e1, dueD, cdS, erH, erN, erT, erR, ckE, Bool.true_and, Bool.false_and]
  | true =>
    cases e2 : pName b with
    | false =>
      simp only [von_nil, von_pass, von_break, von_cont, von_retN, von_expr, von_ret, von_if, von_set, von_asg, von_par2, von_par3, von_for, von_var, von_C, von_aNil, von_aCons, von_tup, von_lst, von_lstM, von_opE, von_tV, von_chain, von_tAn, von_tOr, von_tNo, von_and, von_or, von_not, von_eIf, von_call, von_callD, von_CB, von_isi, von_isis, von_pNo, von_pSo, von_sl, von_fmt, von_joined, von_runJ0, von_runJ1, von_M1, von_append, von_frz, von_iOf, von_iR1, von_iR2, von_lc, von_dct, so_some, so_none, so_bind, so_map, so_ite, on_ok, on_exc, on_bad, on_of, on_ite, on_iteB, on_runB, son_ite, son_nx, son_rt, son_bk, son_ct, son_exc, son_bad, po_nx, po_rt, po_bk, po_ct, po_ex, Po.fn, start0_eq, asB_bl, der_non, der_bl, der_int, der_str, der_tup, der_lst, der_dct, opAdd_int, opAdd_str, opAdd_tup, opAdd_lst, opSub_int, opMul_int, opDiv_int, opMod_int, opLt_int, opLe_int, opGt_int, opGe_int, opEq_int, opNe_int, opIx_tup, opIx_lst, at0, at1, at2, at3, at4, fInt_int, fLen_tup, fLen_lst, fLen_dct, fLen_str, gvName_ap, tYesV_ap, gvSub_var, Option.bind_some, Option.map_some, get0, getS, set0, setS, List.getElem?_cons_zero, List.getElem?_cons_succ, List.set_cons_zero, List.set_cons_succ, List.map_cons, List.map_nil, List.length_cons, List.length_nil, List.replicate_succ, List.replicate_zero, List.cons_append, List.nil_append, List.append_nil, Nat.reduceAdd, Nat.reduceSub, Int.reduceSub, Int.reduceNeg, Int.reduceAdd, Nat.reduceMul, Nat.reduceLeDiff, LN, true_and, and_true, if_true, if_false, Bool.not_true, Bool.not_false, Bool.false_eq_true, reduceIte, decide_true, decide_false, any_tup, forL_cons, forL_nil, call_eq (vlB_Sc ha), call_eq (vlB_Sc hb), e1, e2, dueD, cdS, erH, erN, erT, erR, ckE, Bool.true_and, Bool.false_and]
    | true =>
      simp only [von_nil, von_pass, von_break, von_cont, von_retN, von_expr, von_ret, von_if, von_set, von_asg, von_par2, von_par3, von_for, von_var, von_C, von_aNil, von_aCons, von_tup, von_lst, von_lstM, von_opE, von_tV, von_chain, von_tAn, von_tOr, von_tNo, von_and, von_or, von_not, von_eIf, von_call, von_callD, von_CB, von_isi, von_isis, von_pNo, von_pSo, von_sl, von_fmt, von_joined, von_runJ0, von_runJ1, von_M1, von_append, von_frz, von_iOf, von_iR1, von_iR2, von_lc, von_dct, so_some, so_none, so_bind, so_map, so_ite, on_ok, on_exc, on_bad, on_of, on_ite, on_iteB, on_runB, son_ite, son_nx, son_rt, son_bk, son_ct, son_exc, son_bad, po_nx, po_rt, po_bk, po_ct, po_ex, Po.fn, start0_eq, asB_bl, der_non, der_bl, der_int, der_str, der_tup, der_lst, der_dct, opAdd_int, opAdd_str, opAdd_tup, opAdd_lst, opSub_int, opMul_int, opDiv_int, opMod_int, opLt_int, opLe_int, opGt_int, opGe_int, opEq_int, opNe_int, opIx_tup, opIx_lst, at0, at1, at2, at3, at4, fInt_int, fLen_tup, fLen_lst, fLen_dct, fLen_str, gvName_ap, tYesV_ap, gvSub_var, Option.bind_some, Option.map_some, get0, getS, set0, setS, List.getElem?_cons_zero, List.getElem?_cons_succ, List.set_cons_zero, List.set_cons_succ, List.map_cons, List.map_nil, List.length_cons, List.length_nil, List.replicate_succ, List.replicate_zero, List.cons_append, List.nil_append, List.append_nil, Nat.reduceAdd, Nat.reduceSub, Int.reduceSub, Int.reduceNeg, Int.reduceAdd, Nat.reduceMul, Nat.reduceLeDiff, LN, true_and, and_true, if_true, if_false, Bool.not_true, Bool.not_false, Bool.false_eq_true, reduceIte, decide_true, decide_false, any_tup, forL_cons, forL_nil, call_eq (vlB_Sc ha), call_eq (vlB_Sc hb), e1, e2, ckE]
      refine hR _ _ ?_
      clear hR R
      refine seq_i fun R hR => ?_
      simp only [von_nil, von_pass, von_break, von_cont, von_retN, von_expr, von_ret, von_if, von_set, von_asg, von_par2, von_par3, von_for, von_var, von_C, von_aNil, von_aCons, von_tup, von_lst, von_lstM, von_opE, von_tV, von_chain, von_tAn, von_tOr, von_tNo, von_and, von_or, von_not, von_eIf, von_call, von_callD, von_CB, von_isi, von_isis, von_pNo, von_pSo, von_sl, von_fmt, von_joined, von_runJ0, von_runJ1, von_M1, von_append, von_frz, von_iOf, von_iR1, von_iR2, von_lc, von_dct, so_some, so_none, so_bind, so_map, so_ite, on_ok, on_exc, on_bad, on_of, on_ite, on_iteB, on_runB, son_ite, son_nx, son_rt, son_bk, son_ct, son_exc, son_bad, po_nx, po_rt, po_bk, po_ct, po_ex, Po.fn, start0_eq, asB_bl, der_non, der_bl, der_int, der_str, der_tup, der_lst, der_dct, opAdd_int, opAdd_str, opAdd_tup, opAdd_lst, opSub_int, opMul_int, opDiv_int, opMod_int, opLt_int, opLe_int, opGt_int, opGe_int, opEq_int, opNe_int, opIx_tup, opIx_lst, at0, at1, at2, at3, at4, fInt_int, fLen_tup, fLen_lst, fLen_dct, fLen_str, gvName_ap, tYesV_ap, gvSub_var, Option.bind_some, Option.map_some, get0, getS, set0, setS, List.getElem?_cons_zero, List.getElem?_cons_succ, List.set_cons_zero, List.set_cons_succ, List.map_cons, List.map_nil, List.length_cons, List.length_nil, List.replicate_succ, List.replicate_zero, List.cons_append, List.nil_append, List.append_nil, Nat.reduceAdd, Nat.reduceSub, Int.reduceSub, Int.reduceNeg, Int.reduceAdd, Nat.reduceMul, Nat.reduceLeDiff, LN, true_and, and_true, if_true, if_false, Bool.not_true, Bool.not_false, Bool.false_eq_true, reduceIte, decide_true, decide_false, opEq_str, hw]
      refine hR _ _ ?_
      clear hR R
      refine seq_i fun R hR => ?_
      cases e4 : pStd t with
      | false =>
        simp only [von_nil, von_pass, von_break, von_cont, von_retN, von_expr, von_ret, von_if, von_set, von_asg, von_par2, von_par3, von_for, von_var, von_C, von_aNil, von_aCons, von_tup, von_lst, von_lstM, von_opE, von_tV, von_chain, von_tAn, von_tOr, von_tNo, von_and, von_or, von_not, von_eIf, von_call, von_callD, von_CB, von_isi, von_isis, von_pNo, von_pSo, von_sl, von_fmt, von_joined, von_runJ0, von_runJ1, von_M1, von_append, von_frz, von_iOf, von_iR1, von_iR2, von_lc, von_dct, so_some, so_none, so_bind, so_map, so_ite, on_ok, on_exc, on_bad, on_of, on_ite, on_iteB, on_runB, son_ite, son_nx, son_rt, son_bk, son_ct, son_exc, son_bad, po_nx, po_rt, po_bk, po_ct, po_ex, Po.fn, start0_eq, asB_bl, der_non, der_bl, der_int, der_str, der_tup, der_lst, der_dct, opAdd_int, opAdd_str, opAdd_tup, opAdd_lst, opSub_int, opMul_int, opDiv_int, opMod_int, opLt_int, opLe_int, opGt_int, opGe_int, opEq_int, opNe_int, opIx_tup, opIx_lst, at0, at1, at2, at3, at4, fInt_int, fLen_tup, fLen_lst, fLen_dct, fLen_str, gvName_ap, tYesV_ap, gvSub_var, Option.bind_some, Option.map_some, get0, getS, set0, setS, List.getElem?_cons_zero, List.getElem?_cons_succ, List.set_cons_zero, List.set_cons_succ, List.map_cons, List.map_nil, List.length_cons, List.length_nil, List.replicate_succ, List.replicate_zero, List.cons_append, List.nil_append, List.append_nil, Nat.reduceAdd, Nat.reduceSub, Int.reduceSub, Int.reduceNeg, Int.reduceAdd, Nat.reduceMul, Nat.reduceLeDiff, LN, true_and, and_true, if_true, if_false, Bool.not_true, Bool.not_false, Bool.false_eq_true, reduceIte, decide_true, decide_false, spot_eq (vlB_Val ht), e4, dueD, cdS, erH, erN, erT, erR, ckE, Bool.true_and, Bool.false_and, e1, e2]
      | true =>
        simp only [von_nil, von_pass, von_break, von_cont, von_retN, von_expr, von_ret, von_if, von_set, von_asg, von_par2, von_par3, von_for, von_var, von_C, von_aNil, von_aCons, von_tup, von_lst, von_lstM, von_opE, von_tV, von_chain, von_tAn, von_tOr, von_tNo, von_and, von_or, von_not, von_eIf, von_call, von_callD, von_CB, von_isi, von_isis, von_pNo, von_pSo, von_sl, von_fmt, von_joined, von_runJ0, von_runJ1, von_M1, von_append, von_frz, von_iOf, von_iR1, von_iR2, von_lc, von_dct, so_some, so_none, so_bind, so_map, so_ite, on_ok, on_exc, on_bad, on_of, on_ite, on_iteB, on_runB, son_ite, son_nx, son_rt, son_bk, son_ct, son_exc, son_bad, po_nx, po_rt, po_bk, po_ct, po_ex, Po.fn, start0_eq, asB_bl, der_non, der_bl, der_int, der_str, der_tup, der_lst, der_dct, opAdd_int, opAdd_str, opAdd_tup, opAdd_lst, opSub_int, opMul_int, opDiv_int, opMod_int, opLt_int, opLe_int, opGt_int, opGe_int, opEq_int, opNe_int, opIx_tup, opIx_lst, at0, at1, at2, at3, at4, fInt_int, fLen_tup, fLen_lst, fLen_dct, fLen_str, gvName_ap, tYesV_ap, gvSub_var, Option.bind_some, Option.map_some, get0, getS, set0, setS, List.getElem?_cons_zero, List.getElem?_cons_succ, List.set_cons_zero, List.set_cons_succ, List.map_cons, List.map_nil, List.length_cons, List.length_nil, List.replicate_succ, List.replicate_zero, List.cons_append, List.nil_append, List.append_nil, Nat.reduceAdd, Nat.reduceSub, Int.reduceSub, Int.reduceNeg, Int.reduceAdd, Nat.reduceMul, Nat.reduceLeDiff, LN, true_and, and_true, if_true, if_false, Bool.not_true, Bool.not_false, Bool.false_eq_true, reduceIte, decide_true, decide_false, opEq_str, hw, spot_eq (vlB_Val ht), e4]
        refine hR _ _ ?_
        clear hR R
        refine seq_i fun R hR => ?_
        cases e5 : pNum 1 99 h with
        | false => simp only [von_nil, von_pass, von_break, von_cont, von_retN, von_expr, von_ret, von_if, von_set, von_asg, von_par2, von_par3, von_for, von_var, von_C, von_aNil, von_aCons, von_tup, von_lst, von_lstM, von_opE, von_tV, von_chain, von_tAn, von_tOr, von_tNo, von_and, von_or, von_not, von_eIf, von_call, von_callD, von_CB, von_isi, von_isis, von_pNo, von_pSo, von_sl, von_fmt, von_joined, von_runJ0, von_runJ1, von_M1, von_append, von_frz, von_iOf, von_iR1, von_iR2, von_lc, von_dct, so_some, so_none, so_bind, so_map, so_ite, on_ok, on_exc, on_bad, on_of, on_ite, on_iteB, on_runB, son_ite, son_nx, son_rt, son_bk, son_ct, son_exc, son_bad, po_nx, po_rt, po_bk, po_ct, po_ex, Po.fn, start0_eq, asB_bl, der_non, der_bl, der_int, der_str, der_tup, der_lst, der_dct, opAdd_int, opAdd_str, opAdd_tup, opAdd_lst, opSub_int, opMul_int, opDiv_int, opMod_int, opLt_int, opLe_int, opGt_int, opGe_int, opEq_int, opNe_int, opIx_tup, opIx_lst, at0, at1, at2, at3, at4, fInt_int, fLen_tup, fLen_lst, fLen_dct, fLen_str, gvName_ap, tYesV_ap, gvSub_var, Option.bind_some, Option.map_some, get0, getS, set0, setS, List.getElem?_cons_zero, List.getElem?_cons_succ, List.set_cons_zero, List.set_cons_succ, List.map_cons, List.map_nil, List.length_cons, List.length_nil, List.replicate_succ, List.replicate_zero, List.cons_append, List.nil_append, List.append_nil, Nat.reduceAdd, Nat.reduceSub, Int.reduceSub, Int.reduceNeg, Int.reduceAdd, Nat.reduceMul, Nat.reduceLeDiff, LN, true_and, and_true, if_true, if_false, Bool.not_true, Bool.not_false, Bool.false_eq_true, reduceIte, decide_true, decide_false, any_tup, forL_cons, forL_nil, gvTup_ap, gvCons_ap, gvNil_ap, count_eq (vlB_Sc hh), e5, dueD, cdS, erH, erN, erT, erR, ckE, Bool.true_and, Bool.false_and, e1, e2, e4]
        | true =>
          cases e6 : pNum 0 999 p with
          | false => simp only [von_nil, von_pass, von_break, von_cont, von_retN, von_expr, von_ret, von_if, von_set, von_asg, von_par2, von_par3, von_for, von_var, von_C, von_aNil, von_aCons, von_tup, von_lst, von_lstM, von_opE, von_tV, von_chain, von_tAn, von_tOr, von_tNo, von_and, von_or, von_not, von_eIf, von_call, von_callD, von_CB, von_isi, von_isis, von_pNo, von_pSo, von_sl, von_fmt, von_joined, von_runJ0, von_runJ1, von_M1, von_append, von_frz, von_iOf, von_iR1, von_iR2, von_lc, von_dct, so_some, so_none, so_bind, so_map, so_ite, on_ok, on_exc, on_bad, on_of, on_ite, on_iteB, on_runB, son_ite, son_nx, son_rt, son_bk, son_ct, son_exc, son_bad, po_nx, po_rt, po_bk, po_ct, po_ex, Po.fn, start0_eq, asB_bl, der_non, der_bl, der_int, der_str, der_tup, der_lst, der_dct, opAdd_int, opAdd_str, opAdd_tup, opAdd_lst, opSub_int, opMul_int, opDiv_int, opMod_int, opLt_int, opLe_int, opGt_int, opGe_int, opEq_int, opNe_int, opIx_tup, opIx_lst, at0, at1, at2, at3, at4, fInt_int, fLen_tup, fLen_lst, fLen_dct, fLen_str, gvName_ap, tYesV_ap, gvSub_var, Option.bind_some, Option.map_some, get0, getS, set0, setS, List.getElem?_cons_zero, List.getElem?_cons_succ, List.set_cons_zero, List.set_cons_succ, List.map_cons, List.map_nil, List.length_cons, List.length_nil, List.replicate_succ, List.replicate_zero, List.cons_append, List.nil_append, List.append_nil, Nat.reduceAdd, Nat.reduceSub, Int.reduceSub, Int.reduceNeg, Int.reduceAdd, Nat.reduceMul, Nat.reduceLeDiff, LN, true_and, and_true, if_true, if_false, Bool.not_true, Bool.not_false, Bool.false_eq_true, reduceIte, decide_true, decide_false, any_tup, forL_cons, forL_nil, gvTup_ap, gvCons_ap, gvNil_ap, count_eq (vlB_Sc hh), count_eq (vlB_Sc hp), e5, e6, dueD, cdS, erH, erN, erT, erR, ckE, Bool.true_and, Bool.false_and, e1, e2, e4]
          | true =>
            cases e7 : pNum 0 99 r with
            | false => simp only [von_nil, von_pass, von_break, von_cont, von_retN, von_expr, von_ret, von_if, von_set, von_asg, von_par2, von_par3, von_for, von_var, von_C, von_aNil, von_aCons, von_tup, von_lst, von_lstM, von_opE, von_tV, von_chain, von_tAn, von_tOr, von_tNo, von_and, von_or, von_not, von_eIf, von_call, von_callD, von_CB, von_isi, von_isis, von_pNo, von_pSo, von_sl, von_fmt, von_joined, von_runJ0, von_runJ1, von_M1, von_append, von_frz, von_iOf, von_iR1, von_iR2, von_lc, von_dct, so_some, so_none, so_bind, so_map, so_ite, on_ok, on_exc, on_bad, on_of, on_ite, on_iteB, on_runB, son_ite, son_nx, son_rt, son_bk, son_ct, son_exc, son_bad, po_nx, po_rt, po_bk, po_ct, po_ex, Po.fn, start0_eq, asB_bl, der_non, der_bl, der_int, der_str, der_tup, der_lst, der_dct, opAdd_int, opAdd_str, opAdd_tup, opAdd_lst, opSub_int, opMul_int, opDiv_int, opMod_int, opLt_int, opLe_int, opGt_int, opGe_int, opEq_int, opNe_int, opIx_tup, opIx_lst, at0, at1, at2, at3, at4, fInt_int, fLen_tup, fLen_lst, fLen_dct, fLen_str, gvName_ap, tYesV_ap, gvSub_var, Option.bind_some, Option.map_some, get0, getS, set0, setS, List.getElem?_cons_zero, List.getElem?_cons_succ, List.set_cons_zero, List.set_cons_succ, List.map_cons, List.map_nil, List.length_cons, List.length_nil, List.replicate_succ, List.replicate_zero, List.cons_append, List.nil_append, List.append_nil, Nat.reduceAdd, Nat.reduceSub, Int.reduceSub, Int.reduceNeg, Int.reduceAdd, Nat.reduceMul, Nat.reduceLeDiff, LN, true_and, and_true, if_true, if_false, Bool.not_true, Bool.not_false, Bool.false_eq_true, reduceIte, decide_true, decide_false, any_tup, forL_cons, forL_nil, gvTup_ap, gvCons_ap, gvNil_ap, count_eq (vlB_Sc hh), count_eq (vlB_Sc hp), count_eq (vlB_Sc hr), e5, e6, e7, dueD, cdS, erH, erN, erT, erR, ckE, Bool.true_and, Bool.false_and, e1, e2, e4]
            | true =>
              simp only [von_nil, von_pass, von_break, von_cont, von_retN, von_expr, von_ret, von_if, von_set, von_asg, von_par2, von_par3, von_for, von_var, von_C, von_aNil, von_aCons, von_tup, von_lst, von_lstM, von_opE, von_tV, von_chain, von_tAn, von_tOr, von_tNo, von_and, von_or, von_not, von_eIf, von_call, von_callD, von_CB, von_isi, von_isis, von_pNo, von_pSo, von_sl, von_fmt, von_joined, von_runJ0, von_runJ1, von_M1, von_append, von_frz, von_iOf, von_iR1, von_iR2, von_lc, von_dct, so_some, so_none, so_bind, so_map, so_ite, on_ok, on_exc, on_bad, on_of, on_ite, on_iteB, on_runB, son_ite, son_nx, son_rt, son_bk, son_ct, son_exc, son_bad, po_nx, po_rt, po_bk, po_ct, po_ex, Po.fn, start0_eq, asB_bl, der_non, der_bl, der_int, der_str, der_tup, der_lst, der_dct, opAdd_int, opAdd_str, opAdd_tup, opAdd_lst, opSub_int, opMul_int, opDiv_int, opMod_int, opLt_int, opLe_int, opGt_int, opGe_int, opEq_int, opNe_int, opIx_tup, opIx_lst, at0, at1, at2, at3, at4, fInt_int, fLen_tup, fLen_lst, fLen_dct, fLen_str, gvName_ap, tYesV_ap, gvSub_var, Option.bind_some, Option.map_some, get0, getS, set0, setS, List.getElem?_cons_zero, List.getElem?_cons_succ, List.set_cons_zero, List.set_cons_succ, List.map_cons, List.map_nil, List.length_cons, List.length_nil, List.replicate_succ, List.replicate_zero, List.cons_append, List.nil_append, List.append_nil, Nat.reduceAdd, Nat.reduceSub, Int.reduceSub, Int.reduceNeg, Int.reduceAdd, Nat.reduceMul, Nat.reduceLeDiff, LN, true_and, and_true, if_true, if_false, Bool.not_true, Bool.not_false, Bool.false_eq_true, reduceIte, decide_true, decide_false, any_tup, forL_cons, forL_nil, gvTup_ap, gvCons_ap, gvNil_ap, count_eq (vlB_Sc hh), count_eq (vlB_Sc hp), count_eq (vlB_Sc hr), e5, e6, e7]
              refine hR _ _ ?_
              simp only [von_nil, von_pass, von_break, von_cont, von_retN, von_expr, von_ret, von_if, von_set, von_asg, von_par2, von_par3, von_for, von_var, von_C, von_aNil, von_aCons, von_tup, von_lst, von_lstM, von_opE, von_tV, von_chain, von_tAn, von_tOr, von_tNo, von_and, von_or, von_not, von_eIf, von_call, von_callD, von_CB, von_isi, von_isis, von_pNo, von_pSo, von_sl, von_fmt, von_joined, von_runJ0, von_runJ1, von_M1, von_append, von_frz, von_iOf, von_iR1, von_iR2, von_lc, von_dct, so_some, so_none, so_bind, so_map, so_ite, on_ok, on_exc, on_bad, on_of, on_ite, on_iteB, on_runB, son_ite, son_nx, son_rt, son_bk, son_ct, son_exc, son_bad, po_nx, po_rt, po_bk, po_ct, po_ex, Po.fn, start0_eq, asB_bl, der_non, der_bl, der_int, der_str, der_tup, der_lst, der_dct, opAdd_int, opAdd_str, opAdd_tup, opAdd_lst, opSub_int, opMul_int, opDiv_int, opMod_int, opLt_int, opLe_int, opGt_int, opGe_int, opEq_int, opNe_int, opIx_tup, opIx_lst, at0, at1, at2, at3, at4, fInt_int, fLen_tup, fLen_lst, fLen_dct, fLen_str, gvName_ap, tYesV_ap, gvSub_var, Option.bind_some, Option.map_some, get0, getS, set0, setS, List.getElem?_cons_zero, List.getElem?_cons_succ, List.set_cons_zero, List.set_cons_succ, List.map_cons, List.map_nil, List.length_cons, List.length_nil, List.replicate_succ, List.replicate_zero, List.cons_append, List.nil_append, List.append_nil, Nat.reduceAdd, Nat.reduceSub, Int.reduceSub, Int.reduceNeg, Int.reduceAdd, Nat.reduceMul, Nat.reduceLeDiff, LN, true_and, and_true, if_true, if_false, Bool.not_true, Bool.not_false, Bool.false_eq_true, reduceIte, decide_true, decide_false, dueD, erH, erN, erT, erR, ckE, Bool.true_and, Bool.false_and, e1, e2, e4, e5, e6, e7, cdS]
end KG

namespace KG
open PySem PySem.Spec PyProof.Rows L2 DL PL
def wd (k : Bool) : Str := if k = true then "work" else "hire"
def erRow (k : Bool) (a b r s t h p : D) : Er := if k = true then erW a b s t h p r else erH a b t h p r
def ErOk (o : Er) : Prop := ∀ c v, o = some (c, v) → Cd c ∧ vlB v = true
theorem ck_ok {b : Bool} {c : Nat} {d : D} {o : Er} (hc : Cd c) (hd : vlB d = true) (h : ErOk o) : ErOk (ckE b c d o) := by
  intro c' v' e
  cases b with
  | true => exact h c' v' e
  | false => cases e; exact ⟨hc, hd⟩
theorem erNil_ok : ErOk none := fun c v e => by cases e
theorem erW_ok {a b s t h p r : D} (ha : vlB a = true) (hb : vlB b = true) (hs : vlB s = true) (ht : vlB t = true) (hh : vlB h = true) (hp : vlB p = true) (hr : vlB r = true) : ErOk (erW a b s t h p r) :=
  ck_ok (.inl rfl) ha (ck_ok (.inl rfl) hb (ck_ok (.inr (.inr rfl)) hs (ck_ok (.inr (.inr rfl)) ht (ck_ok (.inr (.inl rfl)) hh (ck_ok (.inr (.inl rfl)) hp (ck_ok (.inr (.inl rfl)) hr erNil_ok))))))
theorem erH_ok {a b t h p r : D} (ha : vlB a = true) (hb : vlB b = true) (ht : vlB t = true) (hh : vlB h = true) (hp : vlB p = true) (hr : vlB r = true) : ErOk (erH a b t h p r) :=
  ck_ok (.inl rfl) ha (ck_ok (.inl rfl) hb (ck_ok (.inr (.inr rfl)) ht (ck_ok (.inr (.inl rfl)) hh (ck_ok (.inr (.inl rfl)) hp (ck_ok (.inr (.inl rfl)) hr erNil_ok)))))
/-- a row, of things that may stand in one -/
structure RowB (a b r s t h p : D) : Prop where
  a : vlB a = true
  b : vlB b = true
  r : vlB r = true
  s : vlB s = true
  t : vlB t = true
  h : vlB h = true
  p : vlB p = true
theorem erRow_ok {k : Bool} {a b r s t h p : D} (R : RowB a b r s t h p) : ErOk (erRow k a b r s t h p) := by
  cases k
  · exact erH_ok R.a R.b R.t R.h R.p R.r
  · exact erW_ok R.a R.b R.s R.t R.h R.p R.r
theorem due_row {k : Bool} {a b r s t h p : D} (R : RowB a b r s t h p) (S : Sto) : m_law_due [.tup [.str (wd k), a, b, r, s, t, h, p]] S = .ok (dueD (erRow k a b r s t h p)) S := by
  cases k
  · exact due_hire R.a R.b R.t R.h R.p R.r S
  · exact due_work R.a R.b R.s R.t R.h R.p R.r S
theorem smp_up : ∀ {n : Nat} {d : D}, Smp n d → Smp (n + 1) d
  | 0, _, h => .inl h
  | n + 1, _, .inl h => .inl h
  | n + 1, _, .inr ⟨xs, e, l, h⟩ => .inr ⟨xs, e, l, fun x hx => smp_up (h x hx)⟩
theorem due_smp {o : Er} (h : ErOk o) : Smp 5 (dueD o) := by
  cases o with
  | none => exact .inr ⟨[], .inl rfl, by simp, fun x hx => by simp at hx⟩
  | some cv =>
    obtain ⟨c, v⟩ := cv
    refine .inr ⟨[.str (cdS c), v], .inl rfl, by simp, fun x hx => ?_⟩
    simp only [List.mem_cons, List.not_mem_nil, or_false] at hx
    rcases hx with rfl | rfl
    · exact .inl (.str _)
    · exact smp_up (smp_up (smp_up (vlB_Smp (h c x rfl).2)))
theorem same_due {o : Er} (h : ErOk o) (S : Sto) : m_law_same 6 [dueD o, dueD o] S = .ok (.bl true) S := same_ok 5 S (due_smp h)
/-! ### asked -/
theorem Fin.mk {o : Er} {S : Sto} {l c : Nat} {K : D → Sto → Prop} {E : Exc → Sto → Prop} (hn : o = none → ∀ S', Insk S l c 20 S' → K .non S') (hs : ∀ cd v, o = some (cd, v) → E (excD cd (cdS cd) ["value"] [v]) S) : Fin o S l c K E := by
  cases o with
  | none => exact hn rfl
  | some cv => exact hs cv.1 cv.2 rfl
theorem Stp.grown {b : Nat} {S S2 : Sto} (st : Stp b S S2) (mo : MO) : Stp b S (S2 ++ [mo]) := by
  have hlt := st.bag.lt
  have hl := st.len
  obtain ⟨a1, a2, a3, a4, a5, a6⟩ := st.bag
  refine ⟨⟨a1, a2, a3, a4, by rw [List.getElem?_append_left hlt]; exact a5, a6⟩, by rw [List.length_append]; omega, fun l hl hb => ?_⟩
  rw [List.getElem?_append_left (by omega)]
  exact st.old l hl hb
theorem Stp.made {b : Nat} {S S2 S' : Sto} {c k : Nat} (st : Stp b S S2) (hI : Insk (S2 ++ [.ins c []]) S2.length c k S') : Stp b S S' := by
  obtain ⟨_, fs, rfl, _⟩ := hI
  have e : (S2 ++ [MO.ins c []]).set S2.length (.ins c fs) = S2 ++ [.ins c fs] := by simp
  rw [e]
  exact Stp.grown st _
theorem asked_on {b0 : Nat} {k : Bool} {a b r s t h p : D} {S : Sto} {K : D → Sto → Prop} {E : Exc → Sto → Prop} (hB : Bag S b0) (R : RowB a b r s t h p) (q : ∀ S2, Stp b0 S S2 → K (dueD (erRow k a b r s t h p)) S2) :
    (m_law_asked [.loc b0, .tup [.str (wd k), a, b, r, s, t, h, p]] S).oo K E := by
  have eo := erRow_ok (k := k) R
  have fin : ∀ {S2 : Sto} {c : Nat} {K' : D → Sto → Prop} {E' : Exc → Sto → Prop}, Stp b0 S S2 → (∀ S', K (.tup []) S' → K' .non S') → (∀ cd v, Cd cd → K (.tup [.str (cdS cd), v]) (S2 ++ [.ins c []]) → E' (excD cd (cdS cd) ["value"] [v]) (S2 ++ [.ins c []])) →
      Fin (erRow k a b r s t h p) (S2 ++ [.ins c []]) S2.length c K' E' := fun {S2 c K' E'} st hk he => by
    refine Fin.mk (fun e S' hI => hk S' ?_) (fun cd v e => he cd v (eo cd v e).1 ?_)
    · have := q S' (Stp.made st hI)
      rw [e] at this
      exact this
    · have := q _ (Stp.grown st (.ins c []))
      rw [e] at this
      exact this
  unfold m_law_asked fb_law_asked
  rw [on_runB]
  refine seq_i fun R1 hR => ?_
  simp only [von_nil, von_pass, von_break, von_cont, von_retN, von_expr, von_ret, von_if, von_set, von_asg, von_par2, von_par3, von_for, von_var, von_C, von_aNil, von_aCons, von_tup, von_lst, von_lstM, von_opE, von_tV, von_chain, von_tAn, von_tOr, von_tNo, von_and, von_or, von_not, von_eIf, von_call, von_callD, von_CB, von_isi, von_isis, von_pNo, von_pSo, von_sl, von_fmt, von_joined, von_runJ0, von_runJ1, von_M1, von_append, von_frz, von_iOf, von_iR1, von_iR2, von_lc, von_dct, so_some, so_none, so_bind, so_map, so_ite, on_ok, on_exc, on_bad, on_of, on_ite, on_iteB, on_runB, son_ite, son_nx, son_rt, son_bk, son_ct, son_exc, son_bad, po_nx, po_rt, po_bk, po_ct, po_ex, Po.fn, start0_eq, asB_bl, der_non, der_bl, der_int, der_str, der_tup, der_lst, der_dct, opAdd_int, opAdd_str, opAdd_tup, opAdd_lst, opSub_int, opMul_int, opDiv_int, opMod_int, opLt_int, opLe_int, opGt_int, opGe_int, opEq_int, opNe_int, opIx_tup, opIx_lst, at0, at1, at2, at3, at4, fInt_int, fLen_tup, fLen_lst, fLen_dct, fLen_str, gvName_ap, tYesV_ap, gvSub_var, Option.bind_some, Option.map_some, get0, getS, set0, setS, List.getElem?_cons_zero, List.getElem?_cons_succ, List.set_cons_zero, List.set_cons_succ, List.map_cons, List.map_nil, List.length_cons, List.length_nil, List.replicate_succ, List.replicate_zero, List.cons_append, List.nil_append, List.append_nil, Nat.reduceAdd, Nat.reduceSub, Int.reduceSub, Int.reduceNeg, Int.reduceAdd, Nat.reduceMul, Nat.reduceLeDiff, LN, true_and, and_true, if_true, if_false, Bool.not_true, Bool.not_false, Bool.false_eq_true, reduceIte, decide_true, decide_false, gvTup_ap, gvCons_ap, gvNil_ap]
  refine hR _ _ ?_
  clear hR R1
  refine seq_i fun R1 hR => ?_
  cases k with
  | true =>
    simp only [von_nil, von_pass, von_break, von_cont, von_retN, von_expr, von_ret, von_if, von_set, von_asg, von_par2, von_par3, von_for, von_var, von_C, von_aNil, von_aCons, von_tup, von_lst, von_lstM, von_opE, von_tV, von_chain, von_tAn, von_tOr, von_tNo, von_and, von_or, von_not, von_eIf, von_call, von_callD, von_CB, von_isi, von_isis, von_pNo, von_pSo, von_sl, von_fmt, von_joined, von_runJ0, von_runJ1, von_M1, von_append, von_frz, von_iOf, von_iR1, von_iR2, von_lc, von_dct, so_some, so_none, so_bind, so_map, so_ite, on_ok, on_exc, on_bad, on_of, on_ite, on_iteB, on_runB, son_ite, son_nx, son_rt, son_bk, son_ct, son_exc, son_bad, po_nx, po_rt, po_bk, po_ct, po_ex, Po.fn, start0_eq, asB_bl, der_non, der_bl, der_int, der_str, der_tup, der_lst, der_dct, opAdd_int, opAdd_str, opAdd_tup, opAdd_lst, opSub_int, opMul_int, opDiv_int, opMod_int, opLt_int, opLe_int, opGt_int, opGe_int, opEq_int, opNe_int, opIx_tup, opIx_lst, at0, at1, at2, at3, at4, fInt_int, fLen_tup, fLen_lst, fLen_dct, fLen_str, gvName_ap, tYesV_ap, gvSub_var, Option.bind_some, Option.map_some, get0, getS, set0, setS, List.getElem?_cons_zero, List.getElem?_cons_succ, List.set_cons_zero, List.set_cons_succ, List.map_cons, List.map_nil, List.length_cons, List.length_nil, List.replicate_succ, List.replicate_zero, List.cons_append, List.nil_append, List.append_nil, Nat.reduceAdd, Nat.reduceSub, Int.reduceSub, Int.reduceNeg, Int.reduceAdd, Nat.reduceMul, Nat.reduceLeDiff, LN, true_and, and_true, if_true, if_false, Bool.not_true, Bool.not_false, Bool.false_eq_true, reduceIte, decide_true, decide_false, opEq_str, ww, wd, e_take]
    refine seq_i fun R2 h2 => ?_
    simp only [von_nil, von_pass, von_break, von_cont, von_retN, von_expr, von_ret, von_if, von_set, von_asg, von_par2, von_par3, von_for, von_var, von_C, von_aNil, von_aCons, von_tup, von_lst, von_lstM, von_opE, von_tV, von_chain, von_tAn, von_tOr, von_tNo, von_and, von_or, von_not, von_eIf, von_call, von_callD, von_CB, von_isi, von_isis, von_pNo, von_pSo, von_sl, von_fmt, von_joined, von_runJ0, von_runJ1, von_M1, von_append, von_frz, von_iOf, von_iR1, von_iR2, von_lc, von_dct, so_some, so_none, so_bind, so_map, so_ite, on_ok, on_exc, on_bad, on_of, on_ite, on_iteB, on_runB, son_ite, son_nx, son_rt, son_bk, son_ct, son_exc, son_bad, po_nx, po_rt, po_bk, po_ct, po_ex, Po.fn, start0_eq, asB_bl, der_non, der_bl, der_int, der_str, der_tup, der_lst, der_dct, opAdd_int, opAdd_str, opAdd_tup, opAdd_lst, opSub_int, opMul_int, opDiv_int, opMod_int, opLt_int, opLe_int, opGt_int, opGe_int, opEq_int, opNe_int, opIx_tup, opIx_lst, at0, at1, at2, at3, at4, fInt_int, fLen_tup, fLen_lst, fLen_dct, fLen_str, gvName_ap, tYesV_ap, gvSub_var, Option.bind_some, Option.map_some, get0, getS, set0, setS, List.getElem?_cons_zero, List.getElem?_cons_succ, List.set_cons_zero, List.set_cons_succ, List.map_cons, List.map_nil, List.length_cons, List.length_nil, List.replicate_succ, List.replicate_zero, List.cons_append, List.nil_append, List.append_nil, Nat.reduceAdd, Nat.reduceSub, Int.reduceSub, Int.reduceNeg, Int.reduceAdd, Nat.reduceMul, Nat.reduceLeDiff, LN, true_and, and_true, if_true, if_false, Bool.not_true, Bool.not_false, Bool.false_eq_true, reduceIte, decide_true, decide_false]
    refine take_on hB (by decide) (by decide) fun i S2 i0 i1 st _ => ?_
    by_cases hi : i = 0
    · simp only [von_nil, von_pass, von_break, von_cont, von_retN, von_expr, von_ret, von_if, von_set, von_asg, von_par2, von_par3, von_for, von_var, von_C, von_aNil, von_aCons, von_tup, von_lst, von_lstM, von_opE, von_tV, von_chain, von_tAn, von_tOr, von_tNo, von_and, von_or, von_not, von_eIf, von_call, von_callD, von_CB, von_isi, von_isis, von_pNo, von_pSo, von_sl, von_fmt, von_joined, von_runJ0, von_runJ1, von_M1, von_append, von_frz, von_iOf, von_iR1, von_iR2, von_lc, von_dct, so_some, so_none, so_bind, so_map, so_ite, on_ok, on_exc, on_bad, on_of, on_ite, on_iteB, on_runB, son_ite, son_nx, son_rt, son_bk, son_ct, son_exc, son_bad, po_nx, po_rt, po_bk, po_ct, po_ex, Po.fn, start0_eq, asB_bl, der_non, der_bl, der_int, der_str, der_tup, der_lst, der_dct, opAdd_int, opAdd_str, opAdd_tup, opAdd_lst, opSub_int, opMul_int, opDiv_int, opMod_int, opLt_int, opLe_int, opGt_int, opGe_int, opEq_int, opNe_int, opIx_tup, opIx_lst, at0, at1, at2, at3, at4, fInt_int, fLen_tup, fLen_lst, fLen_dct, fLen_str, gvName_ap, tYesV_ap, gvSub_var, Option.bind_some, Option.map_some, get0, getS, set0, setS, List.getElem?_cons_zero, List.getElem?_cons_succ, List.set_cons_zero, List.set_cons_succ, List.map_cons, List.map_nil, List.length_cons, List.length_nil, List.replicate_succ, List.replicate_zero, List.cons_append, List.nil_append, List.append_nil, Nat.reduceAdd, Nat.reduceSub, Int.reduceSub, Int.reduceNeg, Int.reduceAdd, Nat.reduceMul, Nat.reduceLeDiff, LN, true_and, and_true, if_true, if_false, Bool.not_true, Bool.not_false, Bool.false_eq_true, reduceIte, decide_true, decide_false, hi, von_eLam]
      refine why_on ?_
      simp only [von_nil, von_pass, von_break, von_cont, von_retN, von_expr, von_ret, von_if, von_set, von_asg, von_par2, von_par3, von_for, von_var, von_C, von_aNil, von_aCons, von_tup, von_lst, von_lstM, von_opE, von_tV, von_chain, von_tAn, von_tOr, von_tNo, von_and, von_or, von_not, von_eIf, von_call, von_callD, von_CB, von_isi, von_isis, von_pNo, von_pSo, von_sl, von_fmt, von_joined, von_runJ0, von_runJ1, von_M1, von_append, von_frz, von_iOf, von_iR1, von_iR2, von_lc, von_dct, so_some, so_none, so_bind, so_map, so_ite, on_ok, on_exc, on_bad, on_of, on_ite, on_iteB, on_runB, son_ite, son_nx, son_rt, son_bk, son_ct, son_exc, son_bad, po_nx, po_rt, po_bk, po_ct, po_ex, Po.fn, start0_eq, asB_bl, der_non, der_bl, der_int, der_str, der_tup, der_lst, der_dct, opAdd_int, opAdd_str, opAdd_tup, opAdd_lst, opSub_int, opMul_int, opDiv_int, opMod_int, opLt_int, opLe_int, opGt_int, opGe_int, opEq_int, opNe_int, opIx_tup, opIx_lst, at0, at1, at2, at3, at4, fInt_int, fLen_tup, fLen_lst, fLen_dct, fLen_str, gvName_ap, tYesV_ap, gvSub_var, Option.bind_some, Option.map_some, get0, getS, set0, setS, List.getElem?_cons_zero, List.getElem?_cons_succ, List.set_cons_zero, List.set_cons_succ, List.map_cons, List.map_nil, List.length_cons, List.length_nil, List.replicate_succ, List.replicate_zero, List.cons_append, List.nil_append, List.append_nil, Nat.reduceAdd, Nat.reduceSub, Int.reduceSub, Int.reduceNeg, Int.reduceAdd, Nat.reduceMul, Nat.reduceLeDiff, LN, true_and, and_true, if_true, if_false, Bool.not_true, Bool.not_false, Bool.false_eq_true, reduceIte, decide_true, decide_false, von_make, kd_Work_init_0, kg_Work_init_0]
      refine work_on (by simp) R.a R.b R.s R.t R.h R.p R.r (fin st (fun S' z => z) fun cd v hc z => ⟨cd, v, hc, rfl, z⟩)
    · simp only [von_nil, von_pass, von_break, von_cont, von_retN, von_expr, von_ret, von_if, von_set, von_asg, von_par2, von_par3, von_for, von_var, von_C, von_aNil, von_aCons, von_tup, von_lst, von_lstM, von_opE, von_tV, von_chain, von_tAn, von_tOr, von_tNo, von_and, von_or, von_not, von_eIf, von_call, von_callD, von_CB, von_isi, von_isis, von_pNo, von_pSo, von_sl, von_fmt, von_joined, von_runJ0, von_runJ1, von_M1, von_append, von_frz, von_iOf, von_iR1, von_iR2, von_lc, von_dct, so_some, so_none, so_bind, so_map, so_ite, on_ok, on_exc, on_bad, on_of, on_ite, on_iteB, on_runB, son_ite, son_nx, son_rt, son_bk, son_ct, son_exc, son_bad, po_nx, po_rt, po_bk, po_ct, po_ex, Po.fn, start0_eq, asB_bl, der_non, der_bl, der_int, der_str, der_tup, der_lst, der_dct, opAdd_int, opAdd_str, opAdd_tup, opAdd_lst, opSub_int, opMul_int, opDiv_int, opMod_int, opLt_int, opLe_int, opGt_int, opGe_int, opEq_int, opNe_int, opIx_tup, opIx_lst, at0, at1, at2, at3, at4, fInt_int, fLen_tup, fLen_lst, fLen_dct, fLen_str, gvName_ap, tYesV_ap, gvSub_var, Option.bind_some, Option.map_some, get0, getS, set0, setS, List.getElem?_cons_zero, List.getElem?_cons_succ, List.set_cons_zero, List.set_cons_succ, List.map_cons, List.map_nil, List.length_cons, List.length_nil, List.replicate_succ, List.replicate_zero, List.cons_append, List.nil_append, List.append_nil, Nat.reduceAdd, Nat.reduceSub, Int.reduceSub, Int.reduceNeg, Int.reduceAdd, Nat.reduceMul, Nat.reduceLeDiff, LN, true_and, and_true, if_true, if_false, Bool.not_true, Bool.not_false, Bool.false_eq_true, reduceIte, decide_true, decide_false, hi]
      refine h2 _ _ ?_
      simp only [von_nil, von_pass, von_break, von_cont, von_retN, von_expr, von_ret, von_if, von_set, von_asg, von_par2, von_par3, von_for, von_var, von_C, von_aNil, von_aCons, von_tup, von_lst, von_lstM, von_opE, von_tV, von_chain, von_tAn, von_tOr, von_tNo, von_and, von_or, von_not, von_eIf, von_call, von_callD, von_CB, von_isi, von_isis, von_pNo, von_pSo, von_sl, von_fmt, von_joined, von_runJ0, von_runJ1, von_M1, von_append, von_frz, von_iOf, von_iR1, von_iR2, von_lc, von_dct, so_some, so_none, so_bind, so_map, so_ite, on_ok, on_exc, on_bad, on_of, on_ite, on_iteB, on_runB, son_ite, son_nx, son_rt, son_bk, son_ct, son_exc, son_bad, po_nx, po_rt, po_bk, po_ct, po_ex, Po.fn, start0_eq, asB_bl, der_non, der_bl, der_int, der_str, der_tup, der_lst, der_dct, opAdd_int, opAdd_str, opAdd_tup, opAdd_lst, opSub_int, opMul_int, opDiv_int, opMod_int, opLt_int, opLe_int, opGt_int, opGe_int, opEq_int, opNe_int, opIx_tup, opIx_lst, at0, at1, at2, at3, at4, fInt_int, fLen_tup, fLen_lst, fLen_dct, fLen_str, gvName_ap, tYesV_ap, gvSub_var, Option.bind_some, Option.map_some, get0, getS, set0, setS, List.getElem?_cons_zero, List.getElem?_cons_succ, List.set_cons_zero, List.set_cons_succ, List.map_cons, List.map_nil, List.length_cons, List.length_nil, List.replicate_succ, List.replicate_zero, List.cons_append, List.nil_append, List.append_nil, Nat.reduceAdd, Nat.reduceSub, Int.reduceSub, Int.reduceNeg, Int.reduceAdd, Nat.reduceMul, Nat.reduceLeDiff, LN, true_and, and_true, if_true, if_false, Bool.not_true, Bool.not_false, Bool.false_eq_true, reduceIte, decide_true, decide_false, von_eLam]
      refine why_on ?_
      simp only [von_nil, von_pass, von_break, von_cont, von_retN, von_expr, von_ret, von_if, von_set, von_asg, von_par2, von_par3, von_for, von_var, von_C, von_aNil, von_aCons, von_tup, von_lst, von_lstM, von_opE, von_tV, von_chain, von_tAn, von_tOr, von_tNo, von_and, von_or, von_not, von_eIf, von_call, von_callD, von_CB, von_isi, von_isis, von_pNo, von_pSo, von_sl, von_fmt, von_joined, von_runJ0, von_runJ1, von_M1, von_append, von_frz, von_iOf, von_iR1, von_iR2, von_lc, von_dct, so_some, so_none, so_bind, so_map, so_ite, on_ok, on_exc, on_bad, on_of, on_ite, on_iteB, on_runB, son_ite, son_nx, son_rt, son_bk, son_ct, son_exc, son_bad, po_nx, po_rt, po_bk, po_ct, po_ex, Po.fn, start0_eq, asB_bl, der_non, der_bl, der_int, der_str, der_tup, der_lst, der_dct, opAdd_int, opAdd_str, opAdd_tup, opAdd_lst, opSub_int, opMul_int, opDiv_int, opMod_int, opLt_int, opLe_int, opGt_int, opGe_int, opEq_int, opNe_int, opIx_tup, opIx_lst, at0, at1, at2, at3, at4, fInt_int, fLen_tup, fLen_lst, fLen_dct, fLen_str, gvName_ap, tYesV_ap, gvSub_var, Option.bind_some, Option.map_some, get0, getS, set0, setS, List.getElem?_cons_zero, List.getElem?_cons_succ, List.set_cons_zero, List.set_cons_succ, List.map_cons, List.map_nil, List.length_cons, List.length_nil, List.replicate_succ, List.replicate_zero, List.cons_append, List.nil_append, List.append_nil, Nat.reduceAdd, Nat.reduceSub, Int.reduceSub, Int.reduceNeg, Int.reduceAdd, Nat.reduceMul, Nat.reduceLeDiff, LN, true_and, and_true, if_true, if_false, Bool.not_true, Bool.not_false, Bool.false_eq_true, reduceIte, decide_true, decide_false, von_make, kd_Work_init_1, kg_Work_init_1]
      refine work_on (by simp) R.a R.b R.s R.t R.h R.p R.r (fin st (fun S' z => z) fun cd v hc z => ⟨cd, v, hc, rfl, z⟩)
  | false =>
    simp only [von_nil, von_pass, von_break, von_cont, von_retN, von_expr, von_ret, von_if, von_set, von_asg, von_par2, von_par3, von_for, von_var, von_C, von_aNil, von_aCons, von_tup, von_lst, von_lstM, von_opE, von_tV, von_chain, von_tAn, von_tOr, von_tNo, von_and, von_or, von_not, von_eIf, von_call, von_callD, von_CB, von_isi, von_isis, von_pNo, von_pSo, von_sl, von_fmt, von_joined, von_runJ0, von_runJ1, von_M1, von_append, von_frz, von_iOf, von_iR1, von_iR2, von_lc, von_dct, so_some, so_none, so_bind, so_map, so_ite, on_ok, on_exc, on_bad, on_of, on_ite, on_iteB, on_runB, son_ite, son_nx, son_rt, son_bk, son_ct, son_exc, son_bad, po_nx, po_rt, po_bk, po_ct, po_ex, Po.fn, start0_eq, asB_bl, der_non, der_bl, der_int, der_str, der_tup, der_lst, der_dct, opAdd_int, opAdd_str, opAdd_tup, opAdd_lst, opSub_int, opMul_int, opDiv_int, opMod_int, opLt_int, opLe_int, opGt_int, opGe_int, opEq_int, opNe_int, opIx_tup, opIx_lst, at0, at1, at2, at3, at4, fInt_int, fLen_tup, fLen_lst, fLen_dct, fLen_str, gvName_ap, tYesV_ap, gvSub_var, Option.bind_some, Option.map_some, get0, getS, set0, setS, List.getElem?_cons_zero, List.getElem?_cons_succ, List.set_cons_zero, List.set_cons_succ, List.map_cons, List.map_nil, List.length_cons, List.length_nil, List.replicate_succ, List.replicate_zero, List.cons_append, List.nil_append, List.append_nil, Nat.reduceAdd, Nat.reduceSub, Int.reduceSub, Int.reduceNeg, Int.reduceAdd, Nat.reduceMul, Nat.reduceLeDiff, LN, true_and, and_true, if_true, if_false, Bool.not_true, Bool.not_false, Bool.false_eq_true, reduceIte, decide_true, decide_false, opEq_str, hw, wd]
    refine hR _ _ ?_
    clear hR R1
    refine seq_i fun R2 h2 => ?_
    simp only [von_nil, von_pass, von_break, von_cont, von_retN, von_expr, von_ret, von_if, von_set, von_asg, von_par2, von_par3, von_for, von_var, von_C, von_aNil, von_aCons, von_tup, von_lst, von_lstM, von_opE, von_tV, von_chain, von_tAn, von_tOr, von_tNo, von_and, von_or, von_not, von_eIf, von_call, von_callD, von_CB, von_isi, von_isis, von_pNo, von_pSo, von_sl, von_fmt, von_joined, von_runJ0, von_runJ1, von_M1, von_append, von_frz, von_iOf, von_iR1, von_iR2, von_lc, von_dct, so_some, so_none, so_bind, so_map, so_ite, on_ok, on_exc, on_bad, on_of, on_ite, on_iteB, on_runB, son_ite, son_nx, son_rt, son_bk, son_ct, son_exc, son_bad, po_nx, po_rt, po_bk, po_ct, po_ex, Po.fn, start0_eq, asB_bl, der_non, der_bl, der_int, der_str, der_tup, der_lst, der_dct, opAdd_int, opAdd_str, opAdd_tup, opAdd_lst, opSub_int, opMul_int, opDiv_int, opMod_int, opLt_int, opLe_int, opGt_int, opGe_int, opEq_int, opNe_int, opIx_tup, opIx_lst, at0, at1, at2, at3, at4, fInt_int, fLen_tup, fLen_lst, fLen_dct, fLen_str, gvName_ap, tYesV_ap, gvSub_var, Option.bind_some, Option.map_some, get0, getS, set0, setS, List.getElem?_cons_zero, List.getElem?_cons_succ, List.set_cons_zero, List.set_cons_succ, List.map_cons, List.map_nil, List.length_cons, List.length_nil, List.replicate_succ, List.replicate_zero, List.cons_append, List.nil_append, List.append_nil, Nat.reduceAdd, Nat.reduceSub, Int.reduceSub, Int.reduceNeg, Int.reduceAdd, Nat.reduceMul, Nat.reduceLeDiff, LN, true_and, and_true, if_true, if_false, Bool.not_true, Bool.not_false, Bool.false_eq_true, reduceIte, decide_true, decide_false, e_take]
    refine take_on hB (by decide) (by decide) fun i S2 i0 i1 st _ => ?_
    by_cases hi : i = 0
    · simp only [von_nil, von_pass, von_break, von_cont, von_retN, von_expr, von_ret, von_if, von_set, von_asg, von_par2, von_par3, von_for, von_var, von_C, von_aNil, von_aCons, von_tup, von_lst, von_lstM, von_opE, von_tV, von_chain, von_tAn, von_tOr, von_tNo, von_and, von_or, von_not, von_eIf, von_call, von_callD, von_CB, von_isi, von_isis, von_pNo, von_pSo, von_sl, von_fmt, von_joined, von_runJ0, von_runJ1, von_M1, von_append, von_frz, von_iOf, von_iR1, von_iR2, von_lc, von_dct, so_some, so_none, so_bind, so_map, so_ite, on_ok, on_exc, on_bad, on_of, on_ite, on_iteB, on_runB, son_ite, son_nx, son_rt, son_bk, son_ct, son_exc, son_bad, po_nx, po_rt, po_bk, po_ct, po_ex, Po.fn, start0_eq, asB_bl, der_non, der_bl, der_int, der_str, der_tup, der_lst, der_dct, opAdd_int, opAdd_str, opAdd_tup, opAdd_lst, opSub_int, opMul_int, opDiv_int, opMod_int, opLt_int, opLe_int, opGt_int, opGe_int, opEq_int, opNe_int, opIx_tup, opIx_lst, at0, at1, at2, at3, at4, fInt_int, fLen_tup, fLen_lst, fLen_dct, fLen_str, gvName_ap, tYesV_ap, gvSub_var, Option.bind_some, Option.map_some, get0, getS, set0, setS, List.getElem?_cons_zero, List.getElem?_cons_succ, List.set_cons_zero, List.set_cons_succ, List.map_cons, List.map_nil, List.length_cons, List.length_nil, List.replicate_succ, List.replicate_zero, List.cons_append, List.nil_append, List.append_nil, Nat.reduceAdd, Nat.reduceSub, Int.reduceSub, Int.reduceNeg, Int.reduceAdd, Nat.reduceMul, Nat.reduceLeDiff, LN, true_and, and_true, if_true, if_false, Bool.not_true, Bool.not_false, Bool.false_eq_true, reduceIte, decide_true, decide_false, hi, von_eLam]
      refine why_on ?_
      simp only [von_nil, von_pass, von_break, von_cont, von_retN, von_expr, von_ret, von_if, von_set, von_asg, von_par2, von_par3, von_for, von_var, von_C, von_aNil, von_aCons, von_tup, von_lst, von_lstM, von_opE, von_tV, von_chain, von_tAn, von_tOr, von_tNo, von_and, von_or, von_not, von_eIf, von_call, von_callD, von_CB, von_isi, von_isis, von_pNo, von_pSo, von_sl, von_fmt, von_joined, von_runJ0, von_runJ1, von_M1, von_append, von_frz, von_iOf, von_iR1, von_iR2, von_lc, von_dct, so_some, so_none, so_bind, so_map, so_ite, on_ok, on_exc, on_bad, on_of, on_ite, on_iteB, on_runB, son_ite, son_nx, son_rt, son_bk, son_ct, son_exc, son_bad, po_nx, po_rt, po_bk, po_ct, po_ex, Po.fn, start0_eq, asB_bl, der_non, der_bl, der_int, der_str, der_tup, der_lst, der_dct, opAdd_int, opAdd_str, opAdd_tup, opAdd_lst, opSub_int, opMul_int, opDiv_int, opMod_int, opLt_int, opLe_int, opGt_int, opGe_int, opEq_int, opNe_int, opIx_tup, opIx_lst, at0, at1, at2, at3, at4, fInt_int, fLen_tup, fLen_lst, fLen_dct, fLen_str, gvName_ap, tYesV_ap, gvSub_var, Option.bind_some, Option.map_some, get0, getS, set0, setS, List.getElem?_cons_zero, List.getElem?_cons_succ, List.set_cons_zero, List.set_cons_succ, List.map_cons, List.map_nil, List.length_cons, List.length_nil, List.replicate_succ, List.replicate_zero, List.cons_append, List.nil_append, List.append_nil, Nat.reduceAdd, Nat.reduceSub, Int.reduceSub, Int.reduceNeg, Int.reduceAdd, Nat.reduceMul, Nat.reduceLeDiff, LN, true_and, and_true, if_true, if_false, Bool.not_true, Bool.not_false, Bool.false_eq_true, reduceIte, decide_true, decide_false, von_make, kd_Hire_init_2, kg_Hire_init_2]
      refine hire_on (by simp) R.a R.b R.t R.h R.p R.r (fin st (fun S' z => z) fun cd v hc z => ⟨cd, v, hc, rfl, z⟩)
    · simp only [von_nil, von_pass, von_break, von_cont, von_retN, von_expr, von_ret, von_if, von_set, von_asg, von_par2, von_par3, von_for, von_var, von_C, von_aNil, von_aCons, von_tup, von_lst, von_lstM, von_opE, von_tV, von_chain, von_tAn, von_tOr, von_tNo, von_and, von_or, von_not, von_eIf, von_call, von_callD, von_CB, von_isi, von_isis, von_pNo, von_pSo, von_sl, von_fmt, von_joined, von_runJ0, von_runJ1, von_M1, von_append, von_frz, von_iOf, von_iR1, von_iR2, von_lc, von_dct, so_some, so_none, so_bind, so_map, so_ite, on_ok, on_exc, on_bad, on_of, on_ite, on_iteB, on_runB, son_ite, son_nx, son_rt, son_bk, son_ct, son_exc, son_bad, po_nx, po_rt, po_bk, po_ct, po_ex, Po.fn, start0_eq, asB_bl, der_non, der_bl, der_int, der_str, der_tup, der_lst, der_dct, opAdd_int, opAdd_str, opAdd_tup, opAdd_lst, opSub_int, opMul_int, opDiv_int, opMod_int, opLt_int, opLe_int, opGt_int, opGe_int, opEq_int, opNe_int, opIx_tup, opIx_lst, at0, at1, at2, at3, at4, fInt_int, fLen_tup, fLen_lst, fLen_dct, fLen_str, gvName_ap, tYesV_ap, gvSub_var, Option.bind_some, Option.map_some, get0, getS, set0, setS, List.getElem?_cons_zero, List.getElem?_cons_succ, List.set_cons_zero, List.set_cons_succ, List.map_cons, List.map_nil, List.length_cons, List.length_nil, List.replicate_succ, List.replicate_zero, List.cons_append, List.nil_append, List.append_nil, Nat.reduceAdd, Nat.reduceSub, Int.reduceSub, Int.reduceNeg, Int.reduceAdd, Nat.reduceMul, Nat.reduceLeDiff, LN, true_and, and_true, if_true, if_false, Bool.not_true, Bool.not_false, Bool.false_eq_true, reduceIte, decide_true, decide_false, hi]
      refine h2 _ _ ?_
      simp only [von_nil, von_pass, von_break, von_cont, von_retN, von_expr, von_ret, von_if, von_set, von_asg, von_par2, von_par3, von_for, von_var, von_C, von_aNil, von_aCons, von_tup, von_lst, von_lstM, von_opE, von_tV, von_chain, von_tAn, von_tOr, von_tNo, von_and, von_or, von_not, von_eIf, von_call, von_callD, von_CB, von_isi, von_isis, von_pNo, von_pSo, von_sl, von_fmt, von_joined, von_runJ0, von_runJ1, von_M1, von_append, von_frz, von_iOf, von_iR1, von_iR2, von_lc, von_dct, so_some, so_none, so_bind, so_map, so_ite, on_ok, on_exc, on_bad, on_of, on_ite, on_iteB, on_runB, son_ite, son_nx, son_rt, son_bk, son_ct, son_exc, son_bad, po_nx, po_rt, po_bk, po_ct, po_ex, Po.fn, start0_eq, asB_bl, der_non, der_bl, der_int, der_str, der_tup, der_lst, der_dct, opAdd_int, opAdd_str, opAdd_tup, opAdd_lst, opSub_int, opMul_int, opDiv_int, opMod_int, opLt_int, opLe_int, opGt_int, opGe_int, opEq_int, opNe_int, opIx_tup, opIx_lst, at0, at1, at2, at3, at4, fInt_int, fLen_tup, fLen_lst, fLen_dct, fLen_str, gvName_ap, tYesV_ap, gvSub_var, Option.bind_some, Option.map_some, get0, getS, set0, setS, List.getElem?_cons_zero, List.getElem?_cons_succ, List.set_cons_zero, List.set_cons_succ, List.map_cons, List.map_nil, List.length_cons, List.length_nil, List.replicate_succ, List.replicate_zero, List.cons_append, List.nil_append, List.append_nil, Nat.reduceAdd, Nat.reduceSub, Int.reduceSub, Int.reduceNeg, Int.reduceAdd, Nat.reduceMul, Nat.reduceLeDiff, LN, true_and, and_true, if_true, if_false, Bool.not_true, Bool.not_false, Bool.false_eq_true, reduceIte, decide_true, decide_false, von_eLam]
      refine why_on ?_
      simp only [von_nil, von_pass, von_break, von_cont, von_retN, von_expr, von_ret, von_if, von_set, von_asg, von_par2, von_par3, von_for, von_var, von_C, von_aNil, von_aCons, von_tup, von_lst, von_lstM, von_opE, von_tV, von_chain, von_tAn, von_tOr, von_tNo, von_and, von_or, von_not, von_eIf, von_call, von_callD, von_CB, von_isi, von_isis, von_pNo, von_pSo, von_sl, von_fmt, von_joined, von_runJ0, von_runJ1, von_M1, von_append, von_frz, von_iOf, von_iR1, von_iR2, von_lc, von_dct, so_some, so_none, so_bind, so_map, so_ite, on_ok, on_exc, on_bad, on_of, on_ite, on_iteB, on_runB, son_ite, son_nx, son_rt, son_bk, son_ct, son_exc, son_bad, po_nx, po_rt, po_bk, po_ct, po_ex, Po.fn, start0_eq, asB_bl, der_non, der_bl, der_int, der_str, der_tup, der_lst, der_dct, opAdd_int, opAdd_str, opAdd_tup, opAdd_lst, opSub_int, opMul_int, opDiv_int, opMod_int, opLt_int, opLe_int, opGt_int, opGe_int, opEq_int, opNe_int, opIx_tup, opIx_lst, at0, at1, at2, at3, at4, fInt_int, fLen_tup, fLen_lst, fLen_dct, fLen_str, gvName_ap, tYesV_ap, gvSub_var, Option.bind_some, Option.map_some, get0, getS, set0, setS, List.getElem?_cons_zero, List.getElem?_cons_succ, List.set_cons_zero, List.set_cons_succ, List.map_cons, List.map_nil, List.length_cons, List.length_nil, List.replicate_succ, List.replicate_zero, List.cons_append, List.nil_append, List.append_nil, Nat.reduceAdd, Nat.reduceSub, Int.reduceSub, Int.reduceNeg, Int.reduceAdd, Nat.reduceMul, Nat.reduceLeDiff, LN, true_and, and_true, if_true, if_false, Bool.not_true, Bool.not_false, Bool.false_eq_true, reduceIte, decide_true, decide_false, von_make, kd_Hire_init_3, kg_Hire_init_3]
      refine hire_on (by simp) R.a R.b R.t R.h R.p R.r (fin st (fun S' z => z) fun cd v hc z => ⟨cd, v, hc, rfl, z⟩)
end KG

namespace KG
open PySem PySem.Spec PyProof.Rows L2 DL PL
theorem atom_int {i : Int} (h0 : -1000000000 ≤ i) (h1 : i ≤ 1000000000) : atomOk (.int i) = true := by
  show decide (i.natAbs.log2 < 200) = true
  rw [decide_eq_true_eq]
  by_cases hz : i.natAbs = 0
  · rw [hz]; decide
  · rw [Nat.log2_lt hz]
    have : i.natAbs < 2 ^ 30 := by omega
    exact Nat.lt_of_lt_of_le this (Nat.pow_le_pow_right (by decide) (by decide))
/-- a name that was drawn -/
def NmD (d : D) : Prop := ∃ l : List Nat, d = .str (SX.S l) ∧ 1 ≤ l.length ∧ l.length ≤ 6 ∧ low l
theorem NmD.name {d : D} (h : NmD d) : pName d = true := by
  obtain ⟨l, rfl, h1, h6, hl⟩ := h
  show (decide (1 ≤ (SX.S l).length) && decide ((SX.S l).length ≤ 6) && allIn abcL (SX.S l)) = true
  rw [SX.S_len, decide_eq_true h1, decide_eq_true h6]
  show l.all (fun c => decide (c ∈ abcL)) = true
  rw [List.all_eq_true]
  exact fun c hc => decide_eq_true (mem_abcL (hl c hc))
theorem NmD.atom {d : D} (h : NmD d) : atomOk d = true := by
  obtain ⟨l, rfl, h1, h6, hl⟩ := h
  show (decide ((SX.S l).length ≤ 90) && l.all fun c => decide (c < 4294967296)) = true
  rw [SX.S_len, decide_eq_true (by omega : l.length ≤ 90), Bool.true_and, List.all_eq_true]
  exact fun c hc => decide_eq_true (by have := hl c hc; omega)
theorem NmD.vl {d : D} (h : NmD d) : vlB d = true := by
  have := h.atom
  obtain ⟨l, rfl, _⟩ := h
  exact this
theorem vl_int {i : Int} (h0 : -1000000000 ≤ i) (h1 : i ≤ 1000000000) : vlB (.int i) = true := atom_int h0 h1
theorem vl_pair {x y : D} (hx : atomOk x = true) (hy : atomOk y = true) : vlB (.tup [x, y]) = true := by
  show (decide (2 ≤ 9) && (atomOk x && (atomOk y && true))) = true
  rw [hx, hy]; rfl
theorem std_mk {x : D} {i : Int} (hx : pName x = true) (h0 : 0 ≤ i) (h8 : i ≤ 8) : pStd (.tup [x, .int i]) = true := by
  show (pName x && (decide (0 ≤ i) && decide (i ≤ 8))) = true
  rw [hx, decide_eq_true h0, decide_eq_true h8]; rfl
theorem num_mk {lo hi i : Int} (h0 : lo ≤ i) (h8 : i ≤ hi) : pNum lo hi (.int i) = true := by
  show (decide (lo ≤ i) && decide (i ≤ hi)) = true
  rw [decide_eq_true h0, decide_eq_true h8]; rfl
theorem wd_t : wd true = "work" := rfl
theorem wd_f : wd false = "hire" := rfl
theorem good_on {b0 : Nat} {xs : List D} {S : Sto} {K : D → Sto → Prop} {E : Exc → Sto → Prop} (hB : Bag S b0) (hx : ∀ x ∈ xs, NmD x) (hl : xs.length = 3)
    (q : ∀ (k : Bool) (a b r s t h p : D) S2, Stp b0 S S2 → RowB a b r s t h p → erRow k a b r s t h p = none → K (.tup [.str (wd k), a, b, r, s, t, h, p]) S2) : (m_law_good [.loc b0, .lst xs] S).oo K E := by
  unfold m_law_good fb_law_good
  rw [on_runB]
  have l0 : 0 < xs.length := by omega
  have l1 : xs.length < 1073741824 := by omega
  refine seq_i fun R hR => ?_
  simp only [von_nil, von_pass, von_break, von_cont, von_retN, von_expr, von_ret, von_if, von_set, von_asg, von_par2, von_par3, von_for, von_var, von_C, von_aNil, von_aCons, von_tup, von_lst, von_lstM, von_opE, von_tV, von_chain, von_tAn, von_tOr, von_tNo, von_and, von_or, von_not, von_eIf, von_call, von_callD, von_CB, von_isi, von_isis, von_pNo, von_pSo, von_sl, von_fmt, von_joined, von_runJ0, von_runJ1, von_M1, von_append, von_frz, von_iOf, von_iR1, von_iR2, von_lc, von_dct, so_some, so_none, so_bind, so_map, so_ite, on_ok, on_exc, on_bad, on_of, on_ite, on_iteB, on_runB, son_ite, son_nx, son_rt, son_bk, son_ct, son_exc, son_bad, po_nx, po_rt, po_bk, po_ct, po_ex, Po.fn, start0_eq, asB_bl, der_non, der_bl, der_int, der_str, der_tup, der_lst, der_dct, opAdd_int, opAdd_str, opAdd_tup, opAdd_lst, opSub_int, opMul_int, opDiv_int, opMod_int, opLt_int, opLe_int, opGt_int, opGe_int, opEq_int, opNe_int, opIx_tup, opIx_lst, at0, at1, at2, at3, at4, fInt_int, fLen_tup, fLen_lst, fLen_dct, fLen_str, gvName_ap, tYesV_ap, gvSub_var, Option.bind_some, Option.map_some, get0, getS, set0, setS, List.getElem?_cons_zero, List.getElem?_cons_succ, List.set_cons_zero, List.set_cons_succ, List.map_cons, List.map_nil, List.length_cons, List.length_nil, List.replicate_succ, List.replicate_zero, List.cons_append, List.nil_append, List.append_nil, Nat.reduceAdd, Nat.reduceSub, Int.reduceSub, Int.reduceNeg, Int.reduceAdd, Nat.reduceMul, Nat.reduceLeDiff, LN, true_and, and_true, if_true, if_false, Bool.not_true, Bool.not_false, Bool.false_eq_true, reduceIte, decide_true, decide_false, e_of]
  refine of_lst hB (by simp) (by simp) fun x S1 hm st1 _ => ?_
  obtain ⟨hr, rfl, hr0, hr7⟩ : ∃ i : Int, x = .int i ∧ 0 ≤ i ∧ i ≤ 7 := by
    simp only [List.mem_cons, List.not_mem_nil, or_false] at hm
    rcases hm with rfl | rfl | rfl <;> exact ⟨_, rfl, by decide, by decide⟩
  clear hm
  refine hR _ _ ?_
  clear hR R
  refine seq_i fun R hR => ?_
  simp only [von_nil, von_pass, von_break, von_cont, von_retN, von_expr, von_ret, von_if, von_set, von_asg, von_par2, von_par3, von_for, von_var, von_C, von_aNil, von_aCons, von_tup, von_lst, von_lstM, von_opE, von_tV, von_chain, von_tAn, von_tOr, von_tNo, von_and, von_or, von_not, von_eIf, von_call, von_callD, von_CB, von_isi, von_isis, von_pNo, von_pSo, von_sl, von_fmt, von_joined, von_runJ0, von_runJ1, von_M1, von_append, von_frz, von_iOf, von_iR1, von_iR2, von_lc, von_dct, so_some, so_none, so_bind, so_map, so_ite, on_ok, on_exc, on_bad, on_of, on_ite, on_iteB, on_runB, son_ite, son_nx, son_rt, son_bk, son_ct, son_exc, son_bad, po_nx, po_rt, po_bk, po_ct, po_ex, Po.fn, start0_eq, asB_bl, der_non, der_bl, der_int, der_str, der_tup, der_lst, der_dct, opAdd_int, opAdd_str, opAdd_tup, opAdd_lst, opSub_int, opMul_int, opDiv_int, opMod_int, opLt_int, opLe_int, opGt_int, opGe_int, opEq_int, opNe_int, opIx_tup, opIx_lst, at0, at1, at2, at3, at4, fInt_int, fLen_tup, fLen_lst, fLen_dct, fLen_str, gvName_ap, tYesV_ap, gvSub_var, Option.bind_some, Option.map_some, get0, getS, set0, setS, List.getElem?_cons_zero, List.getElem?_cons_succ, List.set_cons_zero, List.set_cons_succ, List.map_cons, List.map_nil, List.length_cons, List.length_nil, List.replicate_succ, List.replicate_zero, List.cons_append, List.nil_append, List.append_nil, Nat.reduceAdd, Nat.reduceSub, Int.reduceSub, Int.reduceNeg, Int.reduceAdd, Nat.reduceMul, Nat.reduceLeDiff, LN, true_and, and_true, if_true, if_false, Bool.not_true, Bool.not_false, Bool.false_eq_true, reduceIte, decide_true, decide_false, e_of]
  refine of_lst st1.bag (by simp) (by simp) fun x S2 hm st2 _ => ?_
  obtain ⟨lt, rfl, hlt, hl8⟩ : ∃ i : Int, x = .int i ∧ hr < i ∧ i ≤ 8 := by
    simp only [List.mem_cons, List.not_mem_nil, or_false] at hm
    rcases hm with rfl | rfl <;> exact ⟨_, rfl, by omega, by omega⟩
  clear hm
  have st2 := st1.trans st2
  clear st1
  refine hR _ _ ?_
  clear hR R
  refine seq_i fun R hR => ?_
  simp only [von_nil, von_pass, von_break, von_cont, von_retN, von_expr, von_ret, von_if, von_set, von_asg, von_par2, von_par3, von_for, von_var, von_C, von_aNil, von_aCons, von_tup, von_lst, von_lstM, von_opE, von_tV, von_chain, von_tAn, von_tOr, von_tNo, von_and, von_or, von_not, von_eIf, von_call, von_callD, von_CB, von_isi, von_isis, von_pNo, von_pSo, von_sl, von_fmt, von_joined, von_runJ0, von_runJ1, von_M1, von_append, von_frz, von_iOf, von_iR1, von_iR2, von_lc, von_dct, so_some, so_none, so_bind, so_map, so_ite, on_ok, on_exc, on_bad, on_of, on_ite, on_iteB, on_runB, son_ite, son_nx, son_rt, son_bk, son_ct, son_exc, son_bad, po_nx, po_rt, po_bk, po_ct, po_ex, Po.fn, start0_eq, asB_bl, der_non, der_bl, der_int, der_str, der_tup, der_lst, der_dct, opAdd_int, opAdd_str, opAdd_tup, opAdd_lst, opSub_int, opMul_int, opDiv_int, opMod_int, opLt_int, opLe_int, opGt_int, opGe_int, opEq_int, opNe_int, opIx_tup, opIx_lst, at0, at1, at2, at3, at4, fInt_int, fLen_tup, fLen_lst, fLen_dct, fLen_str, gvName_ap, tYesV_ap, gvSub_var, Option.bind_some, Option.map_some, get0, getS, set0, setS, List.getElem?_cons_zero, List.getElem?_cons_succ, List.set_cons_zero, List.set_cons_succ, List.map_cons, List.map_nil, List.length_cons, List.length_nil, List.replicate_succ, List.replicate_zero, List.cons_append, List.nil_append, List.append_nil, Nat.reduceAdd, Nat.reduceSub, Int.reduceSub, Int.reduceNeg, Int.reduceAdd, Nat.reduceMul, Nat.reduceLeDiff, LN, true_and, and_true, if_true, if_false, Bool.not_true, Bool.not_false, Bool.false_eq_true, reduceIte, decide_true, decide_false, e_of]
  refine of_lst st2.bag (by simp) (by simp) fun x S3 hm st3 _ => ?_
  obtain ⟨k, rfl⟩ : ∃ k : Bool, x = .str (wd k) := by
    simp only [List.mem_cons, List.not_mem_nil, or_false] at hm
    rcases hm with rfl | rfl | rfl
    · exact ⟨true, rfl⟩
    · exact ⟨true, rfl⟩
    · exact ⟨false, rfl⟩
  clear hm
  have st3 := st2.trans st3
  clear st2
  refine of_lst st3.bag (by simp) (by simp) fun x S4 hm st4 _ => ?_
  obtain ⟨tn, rfl, ht0, ht9⟩ : ∃ i : Int, x = .int i ∧ 0 ≤ i ∧ i ≤ 99 := by
    simp only [List.mem_cons, List.not_mem_nil, or_false] at hm
    rcases hm with rfl | rfl | rfl <;> exact ⟨_, rfl, by decide, by decide⟩
  clear hm
  have st4 := st3.trans st4
  clear st3
  refine hR _ _ ?_
  clear hR R
  have fin : ∀ {lt2 : Int} {y1 y2 S5} (R0 : DL.Env → Sto → Prop), NmD y1 → NmD y2 → 0 ≤ lt2 → lt2 ≤ 8 → (k = true → hr < lt2) → Stp b0 S S5 →
      ((sSeq (sPar2 8 9 (aCons (eCall 2 m_law_of [] (aCons (eVar 0) (aCons (eLst (aCons (eC (.int 1)) (aCons (eC (.int 99)) (aCons (eC (.int 3)) aNil)))) aNil))) (aCons (eCall 2 m_law_of [] (aCons (eVar 0) (aCons (eLst (aCons (eC (.int 0)) (aCons (eC (.int 999)) (aCons (eC (.int 6)) aNil)))) aNil))) aNil)))
  (sRet (eTup (aCons (eVar 4) (aCons (eCall 2 m_law_of [] (aCons (eVar 0) (aCons (eVar 1) aNil))) (aCons (eCall 2 m_law_of [] (aCons (eVar 0) (aCons (eVar 1) aNil))) (aCons (eVar 5) (aCons (eIf (tV (eOp opEq (eVar 4) (eC (.str "work")))) (eVar 6) (eTup aNil)) (aCons (eVar 7) (aCons (eVar 8) (aCons (eVar 9) aNil)))))))))))
        [some (.loc b0), some (.lst xs), some (.int hr), some (.int lt), some (.str (wd k)), some (.int tn), some (.tup [y1, .int hr]), some (.tup [y2, .int lt2]), none, none] S5).oo (Po.fn K E) := by
    intro lt2 y1 y2 S5 _ hy1 hy2 h20 h28 hkk st5
    refine seq_i fun R hR => ?_
    simp only [von_nil, von_pass, von_break, von_cont, von_retN, von_expr, von_ret, von_if, von_set, von_asg, von_par2, von_par3, von_for, von_var, von_C, von_aNil, von_aCons, von_tup, von_lst, von_lstM, von_opE, von_tV, von_chain, von_tAn, von_tOr, von_tNo, von_and, von_or, von_not, von_eIf, von_call, von_callD, von_CB, von_isi, von_isis, von_pNo, von_pSo, von_sl, von_fmt, von_joined, von_runJ0, von_runJ1, von_M1, von_append, von_frz, von_iOf, von_iR1, von_iR2, von_lc, von_dct, so_some, so_none, so_bind, so_map, so_ite, on_ok, on_exc, on_bad, on_of, on_ite, on_iteB, on_runB, son_ite, son_nx, son_rt, son_bk, son_ct, son_exc, son_bad, po_nx, po_rt, po_bk, po_ct, po_ex, Po.fn, start0_eq, asB_bl, der_non, der_bl, der_int, der_str, der_tup, der_lst, der_dct, opAdd_int, opAdd_str, opAdd_tup, opAdd_lst, opSub_int, opMul_int, opDiv_int, opMod_int, opLt_int, opLe_int, opGt_int, opGe_int, opEq_int, opNe_int, opIx_tup, opIx_lst, at0, at1, at2, at3, at4, fInt_int, fLen_tup, fLen_lst, fLen_dct, fLen_str, gvName_ap, tYesV_ap, gvSub_var, Option.bind_some, Option.map_some, get0, getS, set0, setS, List.getElem?_cons_zero, List.getElem?_cons_succ, List.set_cons_zero, List.set_cons_succ, List.map_cons, List.map_nil, List.length_cons, List.length_nil, List.replicate_succ, List.replicate_zero, List.cons_append, List.nil_append, List.append_nil, Nat.reduceAdd, Nat.reduceSub, Int.reduceSub, Int.reduceNeg, Int.reduceAdd, Nat.reduceMul, Nat.reduceLeDiff, LN, true_and, and_true, if_true, if_false, Bool.not_true, Bool.not_false, Bool.false_eq_true, reduceIte, decide_true, decide_false, e_of]
    refine of_lst st5.bag (by simp) (by simp) fun x S6 hm st6 _ => ?_
    obtain ⟨hd, rfl, hd0, hd9⟩ : ∃ i : Int, x = .int i ∧ 1 ≤ i ∧ i ≤ 99 := by
      simp only [List.mem_cons, List.not_mem_nil, or_false] at hm
      rcases hm with rfl | rfl | rfl <;> exact ⟨_, rfl, by decide, by decide⟩
    clear hm
    have st6 := st5.trans st6
    clear st5
    refine of_lst st6.bag (by simp) (by simp) fun x S7 hm st7 _ => ?_
    obtain ⟨py, rfl, hp0, hp9⟩ : ∃ i : Int, x = .int i ∧ 0 ≤ i ∧ i ≤ 999 := by
      simp only [List.mem_cons, List.not_mem_nil, or_false] at hm
      rcases hm with rfl | rfl | rfl <;> exact ⟨_, rfl, by decide, by decide⟩
    clear hm
    have st7 := st6.trans st7
    clear st6
    refine hR _ _ ?_
    clear hR R
    simp only [von_nil, von_pass, von_break, von_cont, von_retN, von_expr, von_ret, von_if, von_set, von_asg, von_par2, von_par3, von_for, von_var, von_C, von_aNil, von_aCons, von_tup, von_lst, von_lstM, von_opE, von_tV, von_chain, von_tAn, von_tOr, von_tNo, von_and, von_or, von_not, von_eIf, von_call, von_callD, von_CB, von_isi, von_isis, von_pNo, von_pSo, von_sl, von_fmt, von_joined, von_runJ0, von_runJ1, von_M1, von_append, von_frz, von_iOf, von_iR1, von_iR2, von_lc, von_dct, so_some, so_none, so_bind, so_map, so_ite, on_ok, on_exc, on_bad, on_of, on_ite, on_iteB, on_runB, son_ite, son_nx, son_rt, son_bk, son_ct, son_exc, son_bad, po_nx, po_rt, po_bk, po_ct, po_ex, Po.fn, start0_eq, asB_bl, der_non, der_bl, der_int, der_str, der_tup, der_lst, der_dct, opAdd_int, opAdd_str, opAdd_tup, opAdd_lst, opSub_int, opMul_int, opDiv_int, opMod_int, opLt_int, opLe_int, opGt_int, opGe_int, opEq_int, opNe_int, opIx_tup, opIx_lst, at0, at1, at2, at3, at4, fInt_int, fLen_tup, fLen_lst, fLen_dct, fLen_str, gvName_ap, tYesV_ap, gvSub_var, Option.bind_some, Option.map_some, get0, getS, set0, setS, List.getElem?_cons_zero, List.getElem?_cons_succ, List.set_cons_zero, List.set_cons_succ, List.map_cons, List.map_nil, List.length_cons, List.length_nil, List.replicate_succ, List.replicate_zero, List.cons_append, List.nil_append, List.append_nil, Nat.reduceAdd, Nat.reduceSub, Int.reduceSub, Int.reduceNeg, Int.reduceAdd, Nat.reduceMul, Nat.reduceLeDiff, LN, true_and, and_true, if_true, if_false, Bool.not_true, Bool.not_false, Bool.false_eq_true, reduceIte, decide_true, decide_false, e_of]
    refine of_lst st7.bag l0 l1 fun z1 S8 hz1 st8 _ => ?_
    have st8 := st7.trans st8
    clear st7
    refine of_lst st8.bag l0 l1 fun z2 S9 hz2 st9 _ => ?_
    have st9 := st8.trans st9
    clear st8
    have hz1 := hx z1 hz1
    have hz2 := hx z2 hz2
    have n1 := hz1.name
    have n2 := hz2.name
    have d2 : pStd (.tup [y2, .int lt2]) = true := std_mk hy2.name h20 h28
    have eT : ∀ o, erT (.int hd) (.int py) o = o := fun o => by
      unfold erT; rw [ck_t (num_mk hd0 hd9), ck_t (num_mk hp0 hp9)]
    have eR : ∀ o, erR (.int tn) o = o := fun o => by
      unfold erR; rw [ck_t (num_mk ht0 ht9)]
    cases k with
    | true =>
      simp only [von_nil, von_pass, von_break, von_cont, von_retN, von_expr, von_ret, von_if, von_set, von_asg, von_par2, von_par3, von_for, von_var, von_C, von_aNil, von_aCons, von_tup, von_lst, von_lstM, von_opE, von_tV, von_chain, von_tAn, von_tOr, von_tNo, von_and, von_or, von_not, von_eIf, von_call, von_callD, von_CB, von_isi, von_isis, von_pNo, von_pSo, von_sl, von_fmt, von_joined, von_runJ0, von_runJ1, von_M1, von_append, von_frz, von_iOf, von_iR1, von_iR2, von_lc, von_dct, so_some, so_none, so_bind, so_map, so_ite, on_ok, on_exc, on_bad, on_of, on_ite, on_iteB, on_runB, son_ite, son_nx, son_rt, son_bk, son_ct, son_exc, son_bad, po_nx, po_rt, po_bk, po_ct, po_ex, Po.fn, start0_eq, asB_bl, der_non, der_bl, der_int, der_str, der_tup, der_lst, der_dct, opAdd_int, opAdd_str, opAdd_tup, opAdd_lst, opSub_int, opMul_int, opDiv_int, opMod_int, opLt_int, opLe_int, opGt_int, opGe_int, opEq_int, opNe_int, opIx_tup, opIx_lst, at0, at1, at2, at3, at4, fInt_int, fLen_tup, fLen_lst, fLen_dct, fLen_str, gvName_ap, tYesV_ap, gvSub_var, Option.bind_some, Option.map_some, get0, getS, set0, setS, List.getElem?_cons_zero, List.getElem?_cons_succ, List.set_cons_zero, List.set_cons_succ, List.map_cons, List.map_nil, List.length_cons, List.length_nil, List.replicate_succ, List.replicate_zero, List.cons_append, List.nil_append, List.append_nil, Nat.reduceAdd, Nat.reduceSub, Int.reduceSub, Int.reduceNeg, Int.reduceAdd, Nat.reduceMul, Nat.reduceLeDiff, LN, true_and, and_true, if_true, if_false, Bool.not_true, Bool.not_false, Bool.false_eq_true, reduceIte, decide_true, decide_false, opEq_str, wd_t, ww]
      have d1 : pStd (.tup [y1, .int hr]) = true := std_mk hy1.name hr0 (by omega)
      have := q true z1 z2 (.int tn) (.tup [y1, .int hr]) (.tup [y2, .int lt2]) (.int hd) (.int py) S9 st9
        ⟨hz1.vl, hz2.vl, vl_int (by omega) (by omega), vl_pair hy1.atom (atom_int (by omega) (by omega)), vl_pair hy2.atom (atom_int (by omega) (by omega)), vl_int (by omega) (by omega), vl_int (by omega) (by omega)⟩ (by
          show erW _ _ _ _ _ _ _ = none
          unfold erW erN
          rw [ck_t n1, ck_t n2, ck_t d1, ck_t, eT, eR]
          have e1 : hourOf (.tup [y2, .int lt2]) = lt2 := rfl
          have e2 : hourOf (.tup [y1, .int hr]) = hr := rfl
          rw [d2, e1, e2, decide_eq_false (by have := hkk rfl; omega)]; rfl)
      exact this
    | false =>
      simp only [von_nil, von_pass, von_break, von_cont, von_retN, von_expr, von_ret, von_if, von_set, von_asg, von_par2, von_par3, von_for, von_var, von_C, von_aNil, von_aCons, von_tup, von_lst, von_lstM, von_opE, von_tV, von_chain, von_tAn, von_tOr, von_tNo, von_and, von_or, von_not, von_eIf, von_call, von_callD, von_CB, von_isi, von_isis, von_pNo, von_pSo, von_sl, von_fmt, von_joined, von_runJ0, von_runJ1, von_M1, von_append, von_frz, von_iOf, von_iR1, von_iR2, von_lc, von_dct, so_some, so_none, so_bind, so_map, so_ite, on_ok, on_exc, on_bad, on_of, on_ite, on_iteB, on_runB, son_ite, son_nx, son_rt, son_bk, son_ct, son_exc, son_bad, po_nx, po_rt, po_bk, po_ct, po_ex, Po.fn, start0_eq, asB_bl, der_non, der_bl, der_int, der_str, der_tup, der_lst, der_dct, opAdd_int, opAdd_str, opAdd_tup, opAdd_lst, opSub_int, opMul_int, opDiv_int, opMod_int, opLt_int, opLe_int, opGt_int, opGe_int, opEq_int, opNe_int, opIx_tup, opIx_lst, at0, at1, at2, at3, at4, fInt_int, fLen_tup, fLen_lst, fLen_dct, fLen_str, gvName_ap, tYesV_ap, gvSub_var, Option.bind_some, Option.map_some, get0, getS, set0, setS, List.getElem?_cons_zero, List.getElem?_cons_succ, List.set_cons_zero, List.set_cons_succ, List.map_cons, List.map_nil, List.length_cons, List.length_nil, List.replicate_succ, List.replicate_zero, List.cons_append, List.nil_append, List.append_nil, Nat.reduceAdd, Nat.reduceSub, Int.reduceSub, Int.reduceNeg, Int.reduceAdd, Nat.reduceMul, Nat.reduceLeDiff, LN, true_and, and_true, if_true, if_false, Bool.not_true, Bool.not_false, Bool.false_eq_true, reduceIte, decide_true, decide_false, opEq_str, wd_f, hw]
      have := q false z1 z2 (.int tn) (.tup []) (.tup [y2, .int lt2]) (.int hd) (.int py) S9 st9
        ⟨hz1.vl, hz2.vl, vl_int (by omega) (by omega), rfl, vl_pair hy2.atom (atom_int (by omega) (by omega)), vl_int (by omega) (by omega), vl_int (by omega) (by omega)⟩ (by
          show erH _ _ _ _ _ _ = none
          unfold erH erN
          rw [ck_t n1, ck_t n2, ck_t d2, eT, eR])
      exact this
  refine seq_i fun R hR => ?_
  simp only [von_nil, von_pass, von_break, von_cont, von_retN, von_expr, von_ret, von_if, von_set, von_asg, von_par2, von_par3, von_for, von_var, von_C, von_aNil, von_aCons, von_tup, von_lst, von_lstM, von_opE, von_tV, von_chain, von_tAn, von_tOr, von_tNo, von_and, von_or, von_not, von_eIf, von_call, von_callD, von_CB, von_isi, von_isis, von_pNo, von_pSo, von_sl, von_fmt, von_joined, von_runJ0, von_runJ1, von_M1, von_append, von_frz, von_iOf, von_iR1, von_iR2, von_lc, von_dct, so_some, so_none, so_bind, so_map, so_ite, on_ok, on_exc, on_bad, on_of, on_ite, on_iteB, on_runB, son_ite, son_nx, son_rt, son_bk, son_ct, son_exc, son_bad, po_nx, po_rt, po_bk, po_ct, po_ex, Po.fn, start0_eq, asB_bl, der_non, der_bl, der_int, der_str, der_tup, der_lst, der_dct, opAdd_int, opAdd_str, opAdd_tup, opAdd_lst, opSub_int, opMul_int, opDiv_int, opMod_int, opLt_int, opLe_int, opGt_int, opGe_int, opEq_int, opNe_int, opIx_tup, opIx_lst, at0, at1, at2, at3, at4, fInt_int, fLen_tup, fLen_lst, fLen_dct, fLen_str, gvName_ap, tYesV_ap, gvSub_var, Option.bind_some, Option.map_some, get0, getS, set0, setS, List.getElem?_cons_zero, List.getElem?_cons_succ, List.set_cons_zero, List.set_cons_succ, List.map_cons, List.map_nil, List.length_cons, List.length_nil, List.replicate_succ, List.replicate_zero, List.cons_append, List.nil_append, List.append_nil, Nat.reduceAdd, Nat.reduceSub, Int.reduceSub, Int.reduceNeg, Int.reduceAdd, Nat.reduceMul, Nat.reduceLeDiff, LN, true_and, and_true, if_true, if_false, Bool.not_true, Bool.not_false, Bool.false_eq_true, reduceIte, decide_true, decide_false, e_of]
  refine of_lst st4.bag l0 l1 fun y1 S5 hy1 st5 _ => ?_
  have st5 := st4.trans st5
  clear st4
  refine of_lst st5.bag l0 l1 fun y2 S6 hy2 st6 _ => ?_
  have st6 := st5.trans st6
  clear st5
  have hy1 := hx y1 hy1
  have hy2 := hx y2 hy2
  cases k with
  | true =>
    simp only [von_nil, von_pass, von_break, von_cont, von_retN, von_expr, von_ret, von_if, von_set, von_asg, von_par2, von_par3, von_for, von_var, von_C, von_aNil, von_aCons, von_tup, von_lst, von_lstM, von_opE, von_tV, von_chain, von_tAn, von_tOr, von_tNo, von_and, von_or, von_not, von_eIf, von_call, von_callD, von_CB, von_isi, von_isis, von_pNo, von_pSo, von_sl, von_fmt, von_joined, von_runJ0, von_runJ1, von_M1, von_append, von_frz, von_iOf, von_iR1, von_iR2, von_lc, von_dct, so_some, so_none, so_bind, so_map, so_ite, on_ok, on_exc, on_bad, on_of, on_ite, on_iteB, on_runB, son_ite, son_nx, son_rt, son_bk, son_ct, son_exc, son_bad, po_nx, po_rt, po_bk, po_ct, po_ex, Po.fn, start0_eq, asB_bl, der_non, der_bl, der_int, der_str, der_tup, der_lst, der_dct, opAdd_int, opAdd_str, opAdd_tup, opAdd_lst, opSub_int, opMul_int, opDiv_int, opMod_int, opLt_int, opLe_int, opGt_int, opGe_int, opEq_int, opNe_int, opIx_tup, opIx_lst, at0, at1, at2, at3, at4, fInt_int, fLen_tup, fLen_lst, fLen_dct, fLen_str, gvName_ap, tYesV_ap, gvSub_var, Option.bind_some, Option.map_some, get0, getS, set0, setS, List.getElem?_cons_zero, List.getElem?_cons_succ, List.set_cons_zero, List.set_cons_succ, List.map_cons, List.map_nil, List.length_cons, List.length_nil, List.replicate_succ, List.replicate_zero, List.cons_append, List.nil_append, List.append_nil, Nat.reduceAdd, Nat.reduceSub, Int.reduceSub, Int.reduceNeg, Int.reduceAdd, Nat.reduceMul, Nat.reduceLeDiff, LN, true_and, and_true, if_true, if_false, Bool.not_true, Bool.not_false, Bool.false_eq_true, reduceIte, decide_true, decide_false, opEq_str, wd_t, ww]
    refine hR _ _ (fin R hy1 hy2 (by omega) (by omega) (fun _ => hlt) st6)
  | false =>
    simp only [von_nil, von_pass, von_break, von_cont, von_retN, von_expr, von_ret, von_if, von_set, von_asg, von_par2, von_par3, von_for, von_var, von_C, von_aNil, von_aCons, von_tup, von_lst, von_lstM, von_opE, von_tV, von_chain, von_tAn, von_tOr, von_tNo, von_and, von_or, von_not, von_eIf, von_call, von_callD, von_CB, von_isi, von_isis, von_pNo, von_pSo, von_sl, von_fmt, von_joined, von_runJ0, von_runJ1, von_M1, von_append, von_frz, von_iOf, von_iR1, von_iR2, von_lc, von_dct, so_some, so_none, so_bind, so_map, so_ite, on_ok, on_exc, on_bad, on_of, on_ite, on_iteB, on_runB, son_ite, son_nx, son_rt, son_bk, son_ct, son_exc, son_bad, po_nx, po_rt, po_bk, po_ct, po_ex, Po.fn, start0_eq, asB_bl, der_non, der_bl, der_int, der_str, der_tup, der_lst, der_dct, opAdd_int, opAdd_str, opAdd_tup, opAdd_lst, opSub_int, opMul_int, opDiv_int, opMod_int, opLt_int, opLe_int, opGt_int, opGe_int, opEq_int, opNe_int, opIx_tup, opIx_lst, at0, at1, at2, at3, at4, fInt_int, fLen_tup, fLen_lst, fLen_dct, fLen_str, gvName_ap, tYesV_ap, gvSub_var, Option.bind_some, Option.map_some, get0, getS, set0, setS, List.getElem?_cons_zero, List.getElem?_cons_succ, List.set_cons_zero, List.set_cons_succ, List.map_cons, List.map_nil, List.length_cons, List.length_nil, List.replicate_succ, List.replicate_zero, List.cons_append, List.nil_append, List.append_nil, Nat.reduceAdd, Nat.reduceSub, Int.reduceSub, Int.reduceNeg, Int.reduceAdd, Nat.reduceMul, Nat.reduceLeDiff, LN, true_and, and_true, if_true, if_false, Bool.not_true, Bool.not_false, Bool.false_eq_true, reduceIte, decide_true, decide_false, opEq_str, wd_f, hw]
    refine of_lst st6.bag (by simp) (by simp) fun x S7 hm st7 _ => ?_
    obtain ⟨l2, rfl, g0, g8⟩ : ∃ i : Int, x = .int i ∧ 0 ≤ i ∧ i ≤ 8 := by
      simp only [List.mem_cons, List.not_mem_nil, or_false] at hm
      rcases hm with rfl | rfl | rfl <;> exact ⟨_, rfl, by decide, by decide⟩
    refine hR _ _ (fin R hy1 hy2 g0 g8 (fun z => by cases z) (st6.trans st7))
end KG

namespace KG
open PySem PySem.Spec PyProof.Rows L2 DL PL
theorem in12 (n : Nat) (h1 : 1 ≤ n) (h7 : n ≤ 7) (S : Sto) : opIn (.int n) (.tup [.int 1, .int 2]) S = some (.bl (decide (n ≤ 2))) := by
  have : n = 1 ∨ n = 2 ∨ n = 3 ∨ n = 4 ∨ n = 5 ∨ n = 6 ∨ n = 7 := by omega
  rcases this with rfl | rfl | rfl | rfl | rfl | rfl | rfl <;> rfl
theorem in45 (n : Nat) (h1 : 3 ≤ n) (h7 : n ≤ 7) (S : Sto) : opIn (.int n) (.tup [.int 4, .int 5]) S = some (.bl (decide (n = 4 ∨ n = 5))) := by
  have : n = 3 ∨ n = 4 ∨ n = 5 ∨ n = 6 ∨ n = 7 := by omega
  rcases this with rfl | rfl | rfl | rfl | rfl <;> rfl
theorem pow8 (S : Sto) : opPow (.int 10) (.int 8) S = some (.int 100000000) := rfl
theorem a_a : atomOk (.str "a") = true := by rfl
theorem a_b : atomOk (.str "b") = true := by rfl
theorem mem_vl {P : D → Prop} {xs : List D} (h : ∀ x ∈ xs, P x) {x : D} (hx : x ∈ xs) : P x := h x hx
theorem bad_on {b0 n : Nat} {w a b r s t h p : D} {S : Sto} {K : D → Sto → Prop} {E : Exc → Sto → Prop} (hB : Bag S b0) (h1 : 1 ≤ n) (h7 : n ≤ 7) (hs : vlB s = true)
    (q : ∀ x S2, Stp b0 S S2 → vlB x = true → K x S2) : (m_law_bad [.loc b0, .tup [w, a, b, r, s, t, h, p], .int n] S).oo K E := by
  unfold m_law_bad fb_law_bad
  rw [on_runB]
  refine seq_i fun R hR => ?_
  by_cases h2 : n ≤ 2
  · simp only [von_nil, von_pass, von_break, von_cont, von_retN, von_expr, von_ret, von_if, von_set, von_asg, von_par2, von_par3, von_for, von_var, von_C, von_aNil, von_aCons, von_tup, von_lst, von_lstM, von_opE, von_tV, von_chain, von_tAn, von_tOr, von_tNo, von_and, von_or, von_not, von_eIf, von_call, von_callD, von_CB, von_isi, von_isis, von_pNo, von_pSo, von_sl, von_fmt, von_joined, von_runJ0, von_runJ1, von_M1, von_append, von_frz, von_iOf, von_iR1, von_iR2, von_lc, von_dct, so_some, so_none, so_bind, so_map, so_ite, on_ok, on_exc, on_bad, on_of, on_ite, on_iteB, on_runB, son_ite, son_nx, son_rt, son_bk, son_ct, son_exc, son_bad, po_nx, po_rt, po_bk, po_ct, po_ex, Po.fn, start0_eq, asB_bl, der_non, der_bl, der_int, der_str, der_tup, der_lst, der_dct, opAdd_int, opAdd_str, opAdd_tup, opAdd_lst, opSub_int, opMul_int, opDiv_int, opMod_int, opLt_int, opLe_int, opGt_int, opGe_int, opEq_int, opNe_int, opIx_tup, opIx_lst, at0, at1, at2, at3, at4, fInt_int, fLen_tup, fLen_lst, fLen_dct, fLen_str, gvName_ap, tYesV_ap, gvSub_var, Option.bind_some, Option.map_some, get0, getS, set0, setS, List.getElem?_cons_zero, List.getElem?_cons_succ, List.set_cons_zero, List.set_cons_succ, List.map_cons, List.map_nil, List.length_cons, List.length_nil, List.replicate_succ, List.replicate_zero, List.cons_append, List.nil_append, List.append_nil, Nat.reduceAdd, Nat.reduceSub, Int.reduceSub, Int.reduceNeg, Int.reduceAdd, Nat.reduceMul, Nat.reduceLeDiff, LN, true_and, and_true, if_true, if_false, Bool.not_true, Bool.not_false, Bool.false_eq_true, reduceIte, decide_true, decide_false, in12 n h1 h7, h2, e_of]
    refine of_lst hB (by simp) (by simp) fun x S2 hm st _ => q x S2 st ?_
    simp only [List.mem_cons, List.not_mem_nil, or_false] at hm
    rcases hm with rfl | rfl | rfl | rfl | rfl | rfl | rfl | rfl | rfl | rfl | rfl <;> rfl
  · simp only [von_nil, von_pass, von_break, von_cont, von_retN, von_expr, von_ret, von_if, von_set, von_asg, von_par2, von_par3, von_for, von_var, von_C, von_aNil, von_aCons, von_tup, von_lst, von_lstM, von_opE, von_tV, von_chain, von_tAn, von_tOr, von_tNo, von_and, von_or, von_not, von_eIf, von_call, von_callD, von_CB, von_isi, von_isis, von_pNo, von_pSo, von_sl, von_fmt, von_joined, von_runJ0, von_runJ1, von_M1, von_append, von_frz, von_iOf, von_iR1, von_iR2, von_lc, von_dct, so_some, so_none, so_bind, so_map, so_ite, on_ok, on_exc, on_bad, on_of, on_ite, on_iteB, on_runB, son_ite, son_nx, son_rt, son_bk, son_ct, son_exc, son_bad, po_nx, po_rt, po_bk, po_ct, po_ex, Po.fn, start0_eq, asB_bl, der_non, der_bl, der_int, der_str, der_tup, der_lst, der_dct, opAdd_int, opAdd_str, opAdd_tup, opAdd_lst, opSub_int, opMul_int, opDiv_int, opMod_int, opLt_int, opLe_int, opGt_int, opGe_int, opEq_int, opNe_int, opIx_tup, opIx_lst, at0, at1, at2, at3, at4, fInt_int, fLen_tup, fLen_lst, fLen_dct, fLen_str, gvName_ap, tYesV_ap, gvSub_var, Option.bind_some, Option.map_some, get0, getS, set0, setS, List.getElem?_cons_zero, List.getElem?_cons_succ, List.set_cons_zero, List.set_cons_succ, List.map_cons, List.map_nil, List.length_cons, List.length_nil, List.replicate_succ, List.replicate_zero, List.cons_append, List.nil_append, List.append_nil, Nat.reduceAdd, Nat.reduceSub, Int.reduceSub, Int.reduceNeg, Int.reduceAdd, Nat.reduceMul, Nat.reduceLeDiff, LN, true_and, and_true, if_true, if_false, Bool.not_true, Bool.not_false, Bool.false_eq_true, reduceIte, decide_true, decide_false, in12 n h1 h7, h2]
    refine hR _ _ ?_
    clear hR R
    refine seq_i fun R hR => ?_
    by_cases h4 : n = 4 ∨ n = 5
    · simp only [von_nil, von_pass, von_break, von_cont, von_retN, von_expr, von_ret, von_if, von_set, von_asg, von_par2, von_par3, von_for, von_var, von_C, von_aNil, von_aCons, von_tup, von_lst, von_lstM, von_opE, von_tV, von_chain, von_tAn, von_tOr, von_tNo, von_and, von_or, von_not, von_eIf, von_call, von_callD, von_CB, von_isi, von_isis, von_pNo, von_pSo, von_sl, von_fmt, von_joined, von_runJ0, von_runJ1, von_M1, von_append, von_frz, von_iOf, von_iR1, von_iR2, von_lc, von_dct, so_some, so_none, so_bind, so_map, so_ite, on_ok, on_exc, on_bad, on_of, on_ite, on_iteB, on_runB, son_ite, son_nx, son_rt, son_bk, son_ct, son_exc, son_bad, po_nx, po_rt, po_bk, po_ct, po_ex, Po.fn, start0_eq, asB_bl, der_non, der_bl, der_int, der_str, der_tup, der_lst, der_dct, opAdd_int, opAdd_str, opAdd_tup, opAdd_lst, opSub_int, opMul_int, opDiv_int, opMod_int, opLt_int, opLe_int, opGt_int, opGe_int, opEq_int, opNe_int, opIx_tup, opIx_lst, at0, at1, at2, at3, at4, fInt_int, fLen_tup, fLen_lst, fLen_dct, fLen_str, gvName_ap, tYesV_ap, gvSub_var, Option.bind_some, Option.map_some, get0, getS, set0, setS, List.getElem?_cons_zero, List.getElem?_cons_succ, List.set_cons_zero, List.set_cons_succ, List.map_cons, List.map_nil, List.length_cons, List.length_nil, List.replicate_succ, List.replicate_zero, List.cons_append, List.nil_append, List.append_nil, Nat.reduceAdd, Nat.reduceSub, Int.reduceSub, Int.reduceNeg, Int.reduceAdd, Nat.reduceMul, Nat.reduceLeDiff, LN, true_and, and_true, if_true, if_false, Bool.not_true, Bool.not_false, Bool.false_eq_true, reduceIte, decide_true, decide_false, in45 n (by omega) h7, h4]
      refine seq_i fun R2 k2 => ?_
      have key : ∀ (i : Int) (S1 : Sto), Stp b0 S S1 → 0 ≤ i → i ≤ 8 → R2 [some (.loc b0), some (.tup [w, a, b, r, s, t, h, p]), some (.int n), some (.int i), none] S1 := by
        intro i S1 st i0 i8
        refine k2 _ _ ?_
        clear k2 R2
        refine seq_i fun R2 k2 => ?_
        simp only [von_nil, von_pass, von_break, von_cont, von_retN, von_expr, von_ret, von_if, von_set, von_asg, von_par2, von_par3, von_for, von_var, von_C, von_aNil, von_aCons, von_tup, von_lst, von_lstM, von_opE, von_tV, von_chain, von_tAn, von_tOr, von_tNo, von_and, von_or, von_not, von_eIf, von_call, von_callD, von_CB, von_isi, von_isis, von_pNo, von_pSo, von_sl, von_fmt, von_joined, von_runJ0, von_runJ1, von_M1, von_append, von_frz, von_iOf, von_iR1, von_iR2, von_lc, von_dct, so_some, so_none, so_bind, so_map, so_ite, on_ok, on_exc, on_bad, on_of, on_ite, on_iteB, on_runB, son_ite, son_nx, son_rt, son_bk, son_ct, son_exc, son_bad, po_nx, po_rt, po_bk, po_ct, po_ex, Po.fn, start0_eq, asB_bl, der_non, der_bl, der_int, der_str, der_tup, der_lst, der_dct, opAdd_int, opAdd_str, opAdd_tup, opAdd_lst, opSub_int, opMul_int, opDiv_int, opMod_int, opLt_int, opLe_int, opGt_int, opGe_int, opEq_int, opNe_int, opIx_tup, opIx_lst, at0, at1, at2, at3, at4, fInt_int, fLen_tup, fLen_lst, fLen_dct, fLen_str, gvName_ap, tYesV_ap, gvSub_var, Option.bind_some, Option.map_some, get0, getS, set0, setS, List.getElem?_cons_zero, List.getElem?_cons_succ, List.set_cons_zero, List.set_cons_succ, List.map_cons, List.map_nil, List.length_cons, List.length_nil, List.replicate_succ, List.replicate_zero, List.cons_append, List.nil_append, List.append_nil, Nat.reduceAdd, Nat.reduceSub, Int.reduceSub, Int.reduceNeg, Int.reduceAdd, Nat.reduceMul, Nat.reduceLeDiff, LN, true_and, and_true, if_true, if_false, Bool.not_true, Bool.not_false, Bool.false_eq_true, reduceIte, decide_true, decide_false]
        refine k2 _ _ ?_
        clear k2 R2
        have hi : atomOk (.int i) = true := atom_int (by omega) (by omega)
        by_cases hp0 : 0 < i
        · simp only [von_nil, von_pass, von_break, von_cont, von_retN, von_expr, von_ret, von_if, von_set, von_asg, von_par2, von_par3, von_for, von_var, von_C, von_aNil, von_aCons, von_tup, von_lst, von_lstM, von_opE, von_tV, von_chain, von_tAn, von_tOr, von_tNo, von_and, von_or, von_not, von_eIf, von_call, von_callD, von_CB, von_isi, von_isis, von_pNo, von_pSo, von_sl, von_fmt, von_joined, von_runJ0, von_runJ1, von_M1, von_append, von_frz, von_iOf, von_iR1, von_iR2, von_lc, von_dct, so_some, so_none, so_bind, so_map, so_ite, on_ok, on_exc, on_bad, on_of, on_ite, on_iteB, on_runB, son_ite, son_nx, son_rt, son_bk, son_ct, son_exc, son_bad, po_nx, po_rt, po_bk, po_ct, po_ex, Po.fn, start0_eq, asB_bl, der_non, der_bl, der_int, der_str, der_tup, der_lst, der_dct, opAdd_int, opAdd_str, opAdd_tup, opAdd_lst, opSub_int, opMul_int, opDiv_int, opMod_int, opLt_int, opLe_int, opGt_int, opGe_int, opEq_int, opNe_int, opIx_tup, opIx_lst, at0, at1, at2, at3, at4, fInt_int, fLen_tup, fLen_lst, fLen_dct, fLen_str, gvName_ap, tYesV_ap, gvSub_var, Option.bind_some, Option.map_some, get0, getS, set0, setS, List.getElem?_cons_zero, List.getElem?_cons_succ, List.set_cons_zero, List.set_cons_succ, List.map_cons, List.map_nil, List.length_cons, List.length_nil, List.replicate_succ, List.replicate_zero, List.cons_append, List.nil_append, List.append_nil, Nat.reduceAdd, Nat.reduceSub, Int.reduceSub, Int.reduceNeg, Int.reduceAdd, Nat.reduceMul, Nat.reduceLeDiff, LN, true_and, and_true, if_true, if_false, Bool.not_true, Bool.not_false, Bool.false_eq_true, reduceIte, decide_true, decide_false, hp0, e_of]
          refine of_lst st.bag (by simp) (by simp) fun x S2 hm st2 _ => q x S2 (st.trans st2) ?_
          simp only [List.mem_cons, List.not_mem_nil, or_false] at hm
          rcases hm with rfl | rfl | rfl | rfl | rfl | rfl | rfl | rfl | rfl | rfl | rfl | rfl | rfl | rfl | rfl <;> first | rfl | exact vl_pair a_a hi | exact vl_pair a_b hi | exact vl_pair a_b (atom_int (by omega) (by omega))
        · simp only [von_nil, von_pass, von_break, von_cont, von_retN, von_expr, von_ret, von_if, von_set, von_asg, von_par2, von_par3, von_for, von_var, von_C, von_aNil, von_aCons, von_tup, von_lst, von_lstM, von_opE, von_tV, von_chain, von_tAn, von_tOr, von_tNo, von_and, von_or, von_not, von_eIf, von_call, von_callD, von_CB, von_isi, von_isis, von_pNo, von_pSo, von_sl, von_fmt, von_joined, von_runJ0, von_runJ1, von_M1, von_append, von_frz, von_iOf, von_iR1, von_iR2, von_lc, von_dct, so_some, so_none, so_bind, so_map, so_ite, on_ok, on_exc, on_bad, on_of, on_ite, on_iteB, on_runB, son_ite, son_nx, son_rt, son_bk, son_ct, son_exc, son_bad, po_nx, po_rt, po_bk, po_ct, po_ex, Po.fn, start0_eq, asB_bl, der_non, der_bl, der_int, der_str, der_tup, der_lst, der_dct, opAdd_int, opAdd_str, opAdd_tup, opAdd_lst, opSub_int, opMul_int, opDiv_int, opMod_int, opLt_int, opLe_int, opGt_int, opGe_int, opEq_int, opNe_int, opIx_tup, opIx_lst, at0, at1, at2, at3, at4, fInt_int, fLen_tup, fLen_lst, fLen_dct, fLen_str, gvName_ap, tYesV_ap, gvSub_var, Option.bind_some, Option.map_some, get0, getS, set0, setS, List.getElem?_cons_zero, List.getElem?_cons_succ, List.set_cons_zero, List.set_cons_succ, List.map_cons, List.map_nil, List.length_cons, List.length_nil, List.replicate_succ, List.replicate_zero, List.cons_append, List.nil_append, List.append_nil, Nat.reduceAdd, Nat.reduceSub, Int.reduceSub, Int.reduceNeg, Int.reduceAdd, Nat.reduceMul, Nat.reduceLeDiff, LN, true_and, and_true, if_true, if_false, Bool.not_true, Bool.not_false, Bool.false_eq_true, reduceIte, decide_true, decide_false, hp0, e_of]
          refine of_lst st.bag (by simp) (by simp) fun x S2 hm st2 _ => q x S2 (st.trans st2) ?_
          simp only [List.mem_cons, List.not_mem_nil, or_false] at hm
          rcases hm with rfl | rfl | rfl | rfl | rfl | rfl | rfl | rfl | rfl | rfl | rfl | rfl | rfl | rfl | rfl <;> first | rfl | exact vl_pair a_a hi | exact vl_pair a_b hi
      have k20 := key 2 S (.refl hB) (by decide) (by decide)
      cases s
      case tup xs =>
        obtain ⟨hl, hx⟩ := (vlB_Val hs).2 xs rfl
        rcases xs with _ | ⟨y, _ | ⟨z, _ | ⟨u, v⟩⟩⟩
        · simp only [von_nil, von_pass, von_break, von_cont, von_retN, von_expr, von_ret, von_if, von_set, von_asg, von_par2, von_par3, von_for, von_var, von_C, von_aNil, von_aCons, von_tup, von_lst, von_lstM, von_opE, von_tV, von_chain, von_tAn, von_tOr, von_tNo, von_and, von_or, von_not, von_eIf, von_call, von_callD, von_CB, von_isi, von_isis, von_pNo, von_pSo, von_sl, von_fmt, von_joined, von_runJ0, von_runJ1, von_M1, von_append, von_frz, von_iOf, von_iR1, von_iR2, von_lc, von_dct, so_some, so_none, so_bind, so_map, so_ite, on_ok, on_exc, on_bad, on_of, on_ite, on_iteB, on_runB, son_ite, son_nx, son_rt, son_bk, son_ct, son_exc, son_bad, po_nx, po_rt, po_bk, po_ct, po_ex, Po.fn, start0_eq, asB_bl, der_non, der_bl, der_int, der_str, der_tup, der_lst, der_dct, opAdd_int, opAdd_str, opAdd_tup, opAdd_lst, opSub_int, opMul_int, opDiv_int, opMod_int, opLt_int, opLe_int, opGt_int, opGe_int, opEq_int, opNe_int, opIx_tup, opIx_lst, at0, at1, at2, at3, at4, fInt_int, fLen_tup, fLen_lst, fLen_dct, fLen_str, gvName_ap, tYesV_ap, gvSub_var, Option.bind_some, Option.map_some, get0, getS, set0, setS, List.getElem?_cons_zero, List.getElem?_cons_succ, List.set_cons_zero, List.set_cons_succ, List.map_cons, List.map_nil, List.length_cons, List.length_nil, List.replicate_succ, List.replicate_zero, List.cons_append, List.nil_append, List.append_nil, Nat.reduceAdd, Nat.reduceSub, Int.reduceSub, Int.reduceNeg, Int.reduceAdd, Nat.reduceMul, Nat.reduceLeDiff, LN, true_and, and_true, if_true, if_false, Bool.not_true, Bool.not_false, Bool.false_eq_true, reduceIte, decide_true, decide_false, isK]
          exact k20
        · simp only [von_nil, von_pass, von_break, von_cont, von_retN, von_expr, von_ret, von_if, von_set, von_asg, von_par2, von_par3, von_for, von_var, von_C, von_aNil, von_aCons, von_tup, von_lst, von_lstM, von_opE, von_tV, von_chain, von_tAn, von_tOr, von_tNo, von_and, von_or, von_not, von_eIf, von_call, von_callD, von_CB, von_isi, von_isis, von_pNo, von_pSo, von_sl, von_fmt, von_joined, von_runJ0, von_runJ1, von_M1, von_append, von_frz, von_iOf, von_iR1, von_iR2, von_lc, von_dct, so_some, so_none, so_bind, so_map, so_ite, on_ok, on_exc, on_bad, on_of, on_ite, on_iteB, on_runB, son_ite, son_nx, son_rt, son_bk, son_ct, son_exc, son_bad, po_nx, po_rt, po_bk, po_ct, po_ex, Po.fn, start0_eq, asB_bl, der_non, der_bl, der_int, der_str, der_tup, der_lst, der_dct, opAdd_int, opAdd_str, opAdd_tup, opAdd_lst, opSub_int, opMul_int, opDiv_int, opMod_int, opLt_int, opLe_int, opGt_int, opGe_int, opEq_int, opNe_int, opIx_tup, opIx_lst, at0, at1, at2, at3, at4, fInt_int, fLen_tup, fLen_lst, fLen_dct, fLen_str, gvName_ap, tYesV_ap, gvSub_var, Option.bind_some, Option.map_some, get0, getS, set0, setS, List.getElem?_cons_zero, List.getElem?_cons_succ, List.set_cons_zero, List.set_cons_succ, List.map_cons, List.map_nil, List.length_cons, List.length_nil, List.replicate_succ, List.replicate_zero, List.cons_append, List.nil_append, List.append_nil, Nat.reduceAdd, Nat.reduceSub, Int.reduceSub, Int.reduceNeg, Int.reduceAdd, Nat.reduceMul, Nat.reduceLeDiff, LN, true_and, and_true, if_true, if_false, Bool.not_true, Bool.not_false, Bool.false_eq_true, reduceIte, decide_true, decide_false, isK]
          exact k20
        · have hz : Sc z := hx z (by simp)
          cases hn : pNum 0 8 z with
          | false =>
            simp only [von_nil, von_pass, von_break, von_cont, von_retN, von_expr, von_ret, von_if, von_set, von_asg, von_par2, von_par3, von_for, von_var, von_C, von_aNil, von_aCons, von_tup, von_lst, von_lstM, von_opE, von_tV, von_chain, von_tAn, von_tOr, von_tNo, von_and, von_or, von_not, von_eIf, von_call, von_callD, von_CB, von_isi, von_isis, von_pNo, von_pSo, von_sl, von_fmt, von_joined, von_runJ0, von_runJ1, von_M1, von_append, von_frz, von_iOf, von_iR1, von_iR2, von_lc, von_dct, so_some, so_none, so_bind, so_map, so_ite, on_ok, on_exc, on_bad, on_of, on_ite, on_iteB, on_runB, son_ite, son_nx, son_rt, son_bk, son_ct, son_exc, son_bad, po_nx, po_rt, po_bk, po_ct, po_ex, Po.fn, start0_eq, asB_bl, der_non, der_bl, der_int, der_str, der_tup, der_lst, der_dct, opAdd_int, opAdd_str, opAdd_tup, opAdd_lst, opSub_int, opMul_int, opDiv_int, opMod_int, opLt_int, opLe_int, opGt_int, opGe_int, opEq_int, opNe_int, opIx_tup, opIx_lst, at0, at1, at2, at3, at4, fInt_int, fLen_tup, fLen_lst, fLen_dct, fLen_str, gvName_ap, tYesV_ap, gvSub_var, Option.bind_some, Option.map_some, get0, getS, set0, setS, List.getElem?_cons_zero, List.getElem?_cons_succ, List.set_cons_zero, List.set_cons_succ, List.map_cons, List.map_nil, List.length_cons, List.length_nil, List.replicate_succ, List.replicate_zero, List.cons_append, List.nil_append, List.append_nil, Nat.reduceAdd, Nat.reduceSub, Int.reduceSub, Int.reduceNeg, Int.reduceAdd, Nat.reduceMul, Nat.reduceLeDiff, LN, true_and, and_true, if_true, if_false, Bool.not_true, Bool.not_false, Bool.false_eq_true, reduceIte, decide_true, decide_false, isK, count_eq hz, hn, show ((0 + 1 + 1 : Nat) : Int) = 2 from rfl]
            exact k20
          | true =>
            obtain ⟨i, rfl, i0, i8⟩ : ∃ i : Int, z = .int i ∧ 0 ≤ i ∧ i ≤ 8 := by
              cases z <;> first | cases hn | skip
              case int i =>
                have hn : (decide (0 ≤ i) && decide (i ≤ 8)) = true := hn
                rw [Bool.and_eq_true, decide_eq_true_eq, decide_eq_true_eq] at hn
                exact ⟨i, rfl, hn.1, hn.2⟩
            simp only [von_nil, von_pass, von_break, von_cont, von_retN, von_expr, von_ret, von_if, von_set, von_asg, von_par2, von_par3, von_for, von_var, von_C, von_aNil, von_aCons, von_tup, von_lst, von_lstM, von_opE, von_tV, von_chain, von_tAn, von_tOr, von_tNo, von_and, von_or, von_not, von_eIf, von_call, von_callD, von_CB, von_isi, von_isis, von_pNo, von_pSo, von_sl, von_fmt, von_joined, von_runJ0, von_runJ1, von_M1, von_append, von_frz, von_iOf, von_iR1, von_iR2, von_lc, von_dct, so_some, so_none, so_bind, so_map, so_ite, on_ok, on_exc, on_bad, on_of, on_ite, on_iteB, on_runB, son_ite, son_nx, son_rt, son_bk, son_ct, son_exc, son_bad, po_nx, po_rt, po_bk, po_ct, po_ex, Po.fn, start0_eq, asB_bl, der_non, der_bl, der_int, der_str, der_tup, der_lst, der_dct, opAdd_int, opAdd_str, opAdd_tup, opAdd_lst, opSub_int, opMul_int, opDiv_int, opMod_int, opLt_int, opLe_int, opGt_int, opGe_int, opEq_int, opNe_int, opIx_tup, opIx_lst, at0, at1, at2, at3, at4, fInt_int, fLen_tup, fLen_lst, fLen_dct, fLen_str, gvName_ap, tYesV_ap, gvSub_var, Option.bind_some, Option.map_some, get0, getS, set0, setS, List.getElem?_cons_zero, List.getElem?_cons_succ, List.set_cons_zero, List.set_cons_succ, List.map_cons, List.map_nil, List.length_cons, List.length_nil, List.replicate_succ, List.replicate_zero, List.cons_append, List.nil_append, List.append_nil, Nat.reduceAdd, Nat.reduceSub, Int.reduceSub, Int.reduceNeg, Int.reduceAdd, Nat.reduceMul, Nat.reduceLeDiff, LN, true_and, and_true, if_true, if_false, Bool.not_true, Bool.not_false, Bool.false_eq_true, reduceIte, decide_true, decide_false, isK, count_eq hz, hn, show ((0 + 1 + 1 : Nat) : Int) = 2 from rfl]
            exact key i S (.refl hB) i0 i8
        · have hne : ¬ (((v.length + 1 + 1 + 1 : Nat) : Int) = 2) := by omega
          simp only [von_nil, von_pass, von_break, von_cont, von_retN, von_expr, von_ret, von_if, von_set, von_asg, von_par2, von_par3, von_for, von_var, von_C, von_aNil, von_aCons, von_tup, von_lst, von_lstM, von_opE, von_tV, von_chain, von_tAn, von_tOr, von_tNo, von_and, von_or, von_not, von_eIf, von_call, von_callD, von_CB, von_isi, von_isis, von_pNo, von_pSo, von_sl, von_fmt, von_joined, von_runJ0, von_runJ1, von_M1, von_append, von_frz, von_iOf, von_iR1, von_iR2, von_lc, von_dct, so_some, so_none, so_bind, so_map, so_ite, on_ok, on_exc, on_bad, on_of, on_ite, on_iteB, on_runB, son_ite, son_nx, son_rt, son_bk, son_ct, son_exc, son_bad, po_nx, po_rt, po_bk, po_ct, po_ex, Po.fn, start0_eq, asB_bl, der_non, der_bl, der_int, der_str, der_tup, der_lst, der_dct, opAdd_int, opAdd_str, opAdd_tup, opAdd_lst, opSub_int, opMul_int, opDiv_int, opMod_int, opLt_int, opLe_int, opGt_int, opGe_int, opEq_int, opNe_int, opIx_tup, opIx_lst, at0, at1, at2, at3, at4, fInt_int, fLen_tup, fLen_lst, fLen_dct, fLen_str, gvName_ap, tYesV_ap, gvSub_var, Option.bind_some, Option.map_some, get0, getS, set0, setS, List.getElem?_cons_zero, List.getElem?_cons_succ, List.set_cons_zero, List.set_cons_succ, List.map_cons, List.map_nil, List.length_cons, List.length_nil, List.replicate_succ, List.replicate_zero, List.cons_append, List.nil_append, List.append_nil, Nat.reduceAdd, Nat.reduceSub, Int.reduceSub, Int.reduceNeg, Int.reduceAdd, Nat.reduceMul, Nat.reduceLeDiff, LN, true_and, and_true, if_true, if_false, Bool.not_true, Bool.not_false, Bool.false_eq_true, reduceIte, decide_true, decide_false, isK, hne]
          exact k20
      all_goals first | exact (vlB_Sc hs).elim | (simp only [von_nil, von_pass, von_break, von_cont, von_retN, von_expr, von_ret, von_if, von_set, von_asg, von_par2, von_par3, von_for, von_var, von_C, von_aNil, von_aCons, von_tup, von_lst, von_lstM, von_opE, von_tV, von_chain, von_tAn, von_tOr, von_tNo, von_and, von_or, von_not, von_eIf, von_call, von_callD, von_CB, von_isi, von_isis, von_pNo, von_pSo, von_sl, von_fmt, von_joined, von_runJ0, von_runJ1, von_M1, von_append, von_frz, von_iOf, von_iR1, von_iR2, von_lc, von_dct, so_some, so_none, so_bind, so_map, so_ite, on_ok, on_exc, on_bad, on_of, on_ite, on_iteB, on_runB, son_ite, son_nx, son_rt, son_bk, son_ct, son_exc, son_bad, po_nx, po_rt, po_bk, po_ct, po_ex, Po.fn, start0_eq, asB_bl, der_non, der_bl, der_int, der_str, der_tup, der_lst, der_dct, opAdd_int, opAdd_str, opAdd_tup, opAdd_lst, opSub_int, opMul_int, opDiv_int, opMod_int, opLt_int, opLe_int, opGt_int, opGe_int, opEq_int, opNe_int, opIx_tup, opIx_lst, at0, at1, at2, at3, at4, fInt_int, fLen_tup, fLen_lst, fLen_dct, fLen_str, gvName_ap, tYesV_ap, gvSub_var, Option.bind_some, Option.map_some, get0, getS, set0, setS, List.getElem?_cons_zero, List.getElem?_cons_succ, List.set_cons_zero, List.set_cons_succ, List.map_cons, List.map_nil, List.length_cons, List.length_nil, List.replicate_succ, List.replicate_zero, List.cons_append, List.nil_append, List.append_nil, Nat.reduceAdd, Nat.reduceSub, Int.reduceSub, Int.reduceNeg, Int.reduceAdd, Nat.reduceMul, Nat.reduceLeDiff, LN, true_and, and_true, if_true, if_false, Bool.not_true, Bool.not_false, Bool.false_eq_true, reduceIte, decide_true, decide_false, isK, der_frz]; exact k20)
    · simp only [von_nil, von_pass, von_break, von_cont, von_retN, von_expr, von_ret, von_if, von_set, von_asg, von_par2, von_par3, von_for, von_var, von_C, von_aNil, von_aCons, von_tup, von_lst, von_lstM, von_opE, von_tV, von_chain, von_tAn, von_tOr, von_tNo, von_and, von_or, von_not, von_eIf, von_call, von_callD, von_CB, von_isi, von_isis, von_pNo, von_pSo, von_sl, von_fmt, von_joined, von_runJ0, von_runJ1, von_M1, von_append, von_frz, von_iOf, von_iR1, von_iR2, von_lc, von_dct, so_some, so_none, so_bind, so_map, so_ite, on_ok, on_exc, on_bad, on_of, on_ite, on_iteB, on_runB, son_ite, son_nx, son_rt, son_bk, son_ct, son_exc, son_bad, po_nx, po_rt, po_bk, po_ct, po_ex, Po.fn, start0_eq, asB_bl, der_non, der_bl, der_int, der_str, der_tup, der_lst, der_dct, opAdd_int, opAdd_str, opAdd_tup, opAdd_lst, opSub_int, opMul_int, opDiv_int, opMod_int, opLt_int, opLe_int, opGt_int, opGe_int, opEq_int, opNe_int, opIx_tup, opIx_lst, at0, at1, at2, at3, at4, fInt_int, fLen_tup, fLen_lst, fLen_dct, fLen_str, gvName_ap, tYesV_ap, gvSub_var, Option.bind_some, Option.map_some, get0, getS, set0, setS, List.getElem?_cons_zero, List.getElem?_cons_succ, List.set_cons_zero, List.set_cons_succ, List.map_cons, List.map_nil, List.length_cons, List.length_nil, List.replicate_succ, List.replicate_zero, List.cons_append, List.nil_append, List.append_nil, Nat.reduceAdd, Nat.reduceSub, Int.reduceSub, Int.reduceNeg, Int.reduceAdd, Nat.reduceMul, Nat.reduceLeDiff, LN, true_and, and_true, if_true, if_false, Bool.not_true, Bool.not_false, Bool.false_eq_true, reduceIte, decide_true, decide_false, in45 n (by omega) h7, h4]
      refine hR _ _ ?_
      clear hR R
      simp only [von_nil, von_pass, von_break, von_cont, von_retN, von_expr, von_ret, von_if, von_set, von_asg, von_par2, von_par3, von_for, von_var, von_C, von_aNil, von_aCons, von_tup, von_lst, von_lstM, von_opE, von_tV, von_chain, von_tAn, von_tOr, von_tNo, von_and, von_or, von_not, von_eIf, von_call, von_callD, von_CB, von_isi, von_isis, von_pNo, von_pSo, von_sl, von_fmt, von_joined, von_runJ0, von_runJ1, von_M1, von_append, von_frz, von_iOf, von_iR1, von_iR2, von_lc, von_dct, so_some, so_none, so_bind, so_map, so_ite, on_ok, on_exc, on_bad, on_of, on_ite, on_iteB, on_runB, son_ite, son_nx, son_rt, son_bk, son_ct, son_exc, son_bad, po_nx, po_rt, po_bk, po_ct, po_ex, Po.fn, start0_eq, asB_bl, der_non, der_bl, der_int, der_str, der_tup, der_lst, der_dct, opAdd_int, opAdd_str, opAdd_tup, opAdd_lst, opSub_int, opMul_int, opDiv_int, opMod_int, opLt_int, opLe_int, opGt_int, opGe_int, opEq_int, opNe_int, opIx_tup, opIx_lst, at0, at1, at2, at3, at4, fInt_int, fLen_tup, fLen_lst, fLen_dct, fLen_str, gvName_ap, tYesV_ap, gvSub_var, Option.bind_some, Option.map_some, get0, getS, set0, setS, List.getElem?_cons_zero, List.getElem?_cons_succ, List.set_cons_zero, List.set_cons_succ, List.map_cons, List.map_nil, List.length_cons, List.length_nil, List.replicate_succ, List.replicate_zero, List.cons_append, List.nil_append, List.append_nil, Nat.reduceAdd, Nat.reduceSub, Int.reduceSub, Int.reduceNeg, Int.reduceAdd, Nat.reduceMul, Nat.reduceLeDiff, LN, true_and, and_true, if_true, if_false, Bool.not_true, Bool.not_false, Bool.false_eq_true, reduceIte, decide_true, decide_false, e_of, pow8]
      refine of_lst hB (by simp) (by simp) fun x S2 hm st _ => q x S2 st ?_
      simp only [List.mem_cons, List.not_mem_nil, or_false] at hm
      rcases hm with rfl | rfl | rfl | rfl | rfl | rfl | rfl | rfl | rfl | rfl | rfl | rfl | rfl <;> first | rfl | exact vl_int (by decide) (by decide)
end KG

namespace KG
open PySem PySem.Spec PyProof.Rows L2 DL PL
theorem kd4 (a b : D) : kd_law_names_4 [a, b] [] = [a, b, .int 6] := rfl
theorem sl_from (xs : List D) (k : Nat) (S : Sto) : opSl (.tup xs) (some (k : Int)) none S = some (.tup (xs.drop k)) := by
  show some (D.tup (DL.cutD xs _ _)) = _
  unfold DL.cutD
  rw [HT.sIx_nat, HT.sIx_none]
  by_cases h : k ≤ xs.length
  · rw [Nat.min_eq_left h, List.take_of_length_le (by rw [List.length_drop] <;> omega)]
  · rw [Nat.min_eq_right (by omega), List.drop_eq_nil_of_le (Nat.le_refl _), List.drop_eq_nil_of_le (by omega), List.take_nil]
theorem sl_to (xs : List D) (k : Nat) (S : Sto) : opSl (.tup xs) none (some (k : Int)) S = some (.tup (xs.take k)) := by
  show some (D.tup (DL.cutD xs _ _)) = _
  unfold DL.cutD
  rw [HT.sIx_nat, HT.sIx_none, List.drop_zero, Nat.sub_zero]
  by_cases h : k ≤ xs.length
  · rw [Nat.min_eq_left h]
  · rw [Nat.min_eq_right (by omega), List.take_of_length_le (Nat.le_refl _), List.take_of_length_le (by omega)]
/-- a row of the law -/
def RowL (ds : List D) : Prop := ∃ (k : Bool) (a b r s t h p : D), ds = [.str (wd k), a, b, r, s, t, h, p] ∧ RowB a b r s t h p
theorem RowL.put {ds : List D} {n : Nat} {x : D} (h : RowL ds) (h1 : 1 ≤ n) (h7 : n ≤ 7) (hx : vlB x = true) : RowL ((ds.take n ++ [x]) ++ ds.drop (n + 1)) := by
  obtain ⟨k, a, b, r, s, t, h, p, rfl, R⟩ := h
  have : n = 1 ∨ n = 2 ∨ n = 3 ∨ n = 4 ∨ n = 5 ∨ n = 6 ∨ n = 7 := by omega
  rcases this with rfl | rfl | rfl | rfl | rfl | rfl | rfl
  · exact ⟨k, x, b, r, s, t, h, p, rfl, hx, R.b, R.r, R.s, R.t, R.h, R.p⟩
  · exact ⟨k, a, x, r, s, t, h, p, rfl, R.a, hx, R.r, R.s, R.t, R.h, R.p⟩
  · exact ⟨k, a, b, x, s, t, h, p, rfl, R.a, R.b, hx, R.s, R.t, R.h, R.p⟩
  · exact ⟨k, a, b, r, x, t, h, p, rfl, R.a, R.b, R.r, hx, R.t, R.h, R.p⟩
  · exact ⟨k, a, b, r, s, x, h, p, rfl, R.a, R.b, R.r, R.s, hx, R.h, R.p⟩
  · exact ⟨k, a, b, r, s, t, x, p, rfl, R.a, R.b, R.r, R.s, R.t, hx, R.p⟩
  · exact ⟨k, a, b, r, s, t, h, x, rfl, R.a, R.b, R.r, R.s, R.t, R.h, hx⟩
theorem RowL.len {ds : List D} (h : RowL ds) : ds.length = 8 := by
  obtain ⟨k, a, b, r, s, t, h, p, rfl, R⟩ := h; rfl
theorem law_on (ns : List Int) (hn : ns.length ≤ 63) : (m_law [.frz (ns.map .int)] []).oo (fun d _ => d = .bl true) (fun _ _ => False) := by
  unfold m_law fb_law
  rw [on_runB]
  refine seq_i fun R hR => ?_
  simp only [von_nil, von_pass, von_break, von_cont, von_retN, von_expr, von_ret, von_if, von_set, von_asg, von_par2, von_par3, von_for, von_var, von_C, von_aNil, von_aCons, von_tup, von_lst, von_lstM, von_opE, von_tV, von_chain, von_tAn, von_tOr, von_tNo, von_and, von_or, von_not, von_eIf, von_call, von_callD, von_CB, von_isi, von_isis, von_pNo, von_pSo, von_sl, von_fmt, von_joined, von_runJ0, von_runJ1, von_M1, von_append, von_frz, von_iOf, von_iR1, von_iR2, von_lc, von_dct, so_some, so_none, so_bind, so_map, so_ite, on_ok, on_exc, on_bad, on_of, on_ite, on_iteB, on_runB, son_ite, son_nx, son_rt, son_bk, son_ct, son_exc, son_bad, po_nx, po_rt, po_bk, po_ct, po_ex, Po.fn, start0_eq, asB_bl, der_non, der_bl, der_int, der_str, der_tup, der_lst, der_dct, opAdd_int, opAdd_str, opAdd_tup, opAdd_lst, opSub_int, opMul_int, opDiv_int, opMod_int, opLt_int, opLe_int, opGt_int, opGe_int, opEq_int, opNe_int, opIx_tup, opIx_lst, at0, at1, at2, at3, at4, fInt_int, fLen_tup, fLen_lst, fLen_dct, fLen_str, gvName_ap, tYesV_ap, gvSub_var, Option.bind_some, Option.map_some, get0, getS, set0, setS, List.getElem?_cons_zero, List.getElem?_cons_succ, List.set_cons_zero, List.set_cons_succ, List.map_cons, List.map_nil, List.length_cons, List.length_nil, List.replicate_succ, List.replicate_zero, List.cons_append, List.nil_append, List.append_nil, Nat.reduceAdd, Nat.reduceSub, Int.reduceSub, Int.reduceNeg, Int.reduceAdd, Nat.reduceMul, Nat.reduceLeDiff, LN, true_and, and_true, if_true, if_false, Bool.not_true, Bool.not_false, Bool.false_eq_true, reduceIte, decide_true, decide_false, e_bag]
  refine bag_on hn fun S1 st1 _ => ?_
  generalize List.length ([] : Sto) = b0 at st1
  refine hR _ _ ?_
  clear hR R
  refine seq_i fun R hR => ?_
  simp only [von_nil, von_pass, von_break, von_cont, von_retN, von_expr, von_ret, von_if, von_set, von_asg, von_par2, von_par3, von_for, von_var, von_C, von_aNil, von_aCons, von_tup, von_lst, von_lstM, von_opE, von_tV, von_chain, von_tAn, von_tOr, von_tNo, von_and, von_or, von_not, von_eIf, von_call, von_callD, von_CB, von_isi, von_isis, von_pNo, von_pSo, von_sl, von_fmt, von_joined, von_runJ0, von_runJ1, von_M1, von_append, von_frz, von_iOf, von_iR1, von_iR2, von_lc, von_dct, so_some, so_none, so_bind, so_map, so_ite, on_ok, on_exc, on_bad, on_of, on_ite, on_iteB, on_runB, son_ite, son_nx, son_rt, son_bk, son_ct, son_exc, son_bad, po_nx, po_rt, po_bk, po_ct, po_ex, Po.fn, start0_eq, asB_bl, der_non, der_bl, der_int, der_str, der_tup, der_lst, der_dct, opAdd_int, opAdd_str, opAdd_tup, opAdd_lst, opSub_int, opMul_int, opDiv_int, opMod_int, opLt_int, opLe_int, opGt_int, opGe_int, opEq_int, opNe_int, opIx_tup, opIx_lst, at0, at1, at2, at3, at4, fInt_int, fLen_tup, fLen_lst, fLen_dct, fLen_str, gvName_ap, tYesV_ap, gvSub_var, Option.bind_some, Option.map_some, get0, getS, set0, setS, List.getElem?_cons_zero, List.getElem?_cons_succ, List.set_cons_zero, List.set_cons_succ, List.map_cons, List.map_nil, List.length_cons, List.length_nil, List.replicate_succ, List.replicate_zero, List.cons_append, List.nil_append, List.append_nil, Nat.reduceAdd, Nat.reduceSub, Int.reduceSub, Int.reduceNeg, Int.reduceAdd, Nat.reduceMul, Nat.reduceLeDiff, LN, true_and, and_true, if_true, if_false, Bool.not_true, Bool.not_false, Bool.false_eq_true, reduceIte, decide_true, decide_false]
  refine ⟨⟨by decide, by decide⟩, forL_on (fun ds e S => Bag S b0 ∧ ∃ x0 x2 x3 x4 x5 : Option D, e = [x0, some (.loc b0), x2, x3, x4, x5]) ⟨st1.bag, _, _, _, _, _, rfl⟩ ?_ ?_⟩
  · intro e S h
    refine hR _ _ ?_
    simp only [von_nil, von_pass, von_break, von_cont, von_retN, von_expr, von_ret, von_if, von_set, von_asg, von_par2, von_par3, von_for, von_var, von_C, von_aNil, von_aCons, von_tup, von_lst, von_lstM, von_opE, von_tV, von_chain, von_tAn, von_tOr, von_tNo, von_and, von_or, von_not, von_eIf, von_call, von_callD, von_CB, von_isi, von_isis, von_pNo, von_pSo, von_sl, von_fmt, von_joined, von_runJ0, von_runJ1, von_M1, von_append, von_frz, von_iOf, von_iR1, von_iR2, von_lc, von_dct, so_some, so_none, so_bind, so_map, so_ite, on_ok, on_exc, on_bad, on_of, on_ite, on_iteB, on_runB, son_ite, son_nx, son_rt, son_bk, son_ct, son_exc, son_bad, po_nx, po_rt, po_bk, po_ct, po_ex, Po.fn, start0_eq, asB_bl, der_non, der_bl, der_int, der_str, der_tup, der_lst, der_dct, opAdd_int, opAdd_str, opAdd_tup, opAdd_lst, opSub_int, opMul_int, opDiv_int, opMod_int, opLt_int, opLe_int, opGt_int, opGe_int, opEq_int, opNe_int, opIx_tup, opIx_lst, at0, at1, at2, at3, at4, fInt_int, fLen_tup, fLen_lst, fLen_dct, fLen_str, gvName_ap, tYesV_ap, gvSub_var, Option.bind_some, Option.map_some, get0, getS, set0, setS, List.getElem?_cons_zero, List.getElem?_cons_succ, List.set_cons_zero, List.set_cons_succ, List.map_cons, List.map_nil, List.length_cons, List.length_nil, List.replicate_succ, List.replicate_zero, List.cons_append, List.nil_append, List.append_nil, Nat.reduceAdd, Nat.reduceSub, Int.reduceSub, Int.reduceNeg, Int.reduceAdd, Nat.reduceMul, Nat.reduceLeDiff, LN, true_and, and_true, if_true, if_false, Bool.not_true, Bool.not_false, Bool.false_eq_true, reduceIte, decide_true, decide_false]
  clear hR st1
  intro d ds e S ⟨hB, x0, x2, x3, x4, x5, he⟩
  subst he
  simp only [von_nil, von_pass, von_break, von_cont, von_retN, von_expr, von_ret, von_if, von_set, von_asg, von_par2, von_par3, von_for, von_var, von_C, von_aNil, von_aCons, von_tup, von_lst, von_lstM, von_opE, von_tV, von_chain, von_tAn, von_tOr, von_tNo, von_and, von_or, von_not, von_eIf, von_call, von_callD, von_CB, von_isi, von_isis, von_pNo, von_pSo, von_sl, von_fmt, von_joined, von_runJ0, von_runJ1, von_M1, von_append, von_frz, von_iOf, von_iR1, von_iR2, von_lc, von_dct, so_some, so_none, so_bind, so_map, so_ite, on_ok, on_exc, on_bad, on_of, on_ite, on_iteB, on_runB, son_ite, son_nx, son_rt, son_bk, son_ct, son_exc, son_bad, po_nx, po_rt, po_bk, po_ct, po_ex, Po.fn, start0_eq, asB_bl, der_non, der_bl, der_int, der_str, der_tup, der_lst, der_dct, opAdd_int, opAdd_str, opAdd_tup, opAdd_lst, opSub_int, opMul_int, opDiv_int, opMod_int, opLt_int, opLe_int, opGt_int, opGe_int, opEq_int, opNe_int, opIx_tup, opIx_lst, at0, at1, at2, at3, at4, fInt_int, fLen_tup, fLen_lst, fLen_dct, fLen_str, gvName_ap, tYesV_ap, gvSub_var, Option.bind_some, Option.map_some, get0, getS, set0, setS, List.getElem?_cons_zero, List.getElem?_cons_succ, List.set_cons_zero, List.set_cons_succ, List.map_cons, List.map_nil, List.length_cons, List.length_nil, List.replicate_succ, List.replicate_zero, List.cons_append, List.nil_append, List.append_nil, Nat.reduceAdd, Nat.reduceSub, Int.reduceSub, Int.reduceNeg, Int.reduceAdd, Nat.reduceMul, Nat.reduceLeDiff, LN, true_and, and_true, if_true, if_false, Bool.not_true, Bool.not_false, Bool.false_eq_true, reduceIte, decide_true, decide_false]
  refine seq_i fun R2 h2 => ?_
  simp only [von_nil, von_pass, von_break, von_cont, von_retN, von_expr, von_ret, von_if, von_set, von_asg, von_par2, von_par3, von_for, von_var, von_C, von_aNil, von_aCons, von_tup, von_lst, von_lstM, von_opE, von_tV, von_chain, von_tAn, von_tOr, von_tNo, von_and, von_or, von_not, von_eIf, von_call, von_callD, von_CB, von_isi, von_isis, von_pNo, von_pSo, von_sl, von_fmt, von_joined, von_runJ0, von_runJ1, von_M1, von_append, von_frz, von_iOf, von_iR1, von_iR2, von_lc, von_dct, so_some, so_none, so_bind, so_map, so_ite, on_ok, on_exc, on_bad, on_of, on_ite, on_iteB, on_runB, son_ite, son_nx, son_rt, son_bk, son_ct, son_exc, son_bad, po_nx, po_rt, po_bk, po_ct, po_ex, Po.fn, start0_eq, asB_bl, der_non, der_bl, der_int, der_str, der_tup, der_lst, der_dct, opAdd_int, opAdd_str, opAdd_tup, opAdd_lst, opSub_int, opMul_int, opDiv_int, opMod_int, opLt_int, opLe_int, opGt_int, opGe_int, opEq_int, opNe_int, opIx_tup, opIx_lst, at0, at1, at2, at3, at4, fInt_int, fLen_tup, fLen_lst, fLen_dct, fLen_str, gvName_ap, tYesV_ap, gvSub_var, Option.bind_some, Option.map_some, get0, getS, set0, setS, List.getElem?_cons_zero, List.getElem?_cons_succ, List.set_cons_zero, List.set_cons_succ, List.map_cons, List.map_nil, List.length_cons, List.length_nil, List.replicate_succ, List.replicate_zero, List.cons_append, List.nil_append, List.append_nil, Nat.reduceAdd, Nat.reduceSub, Int.reduceSub, Int.reduceNeg, Int.reduceAdd, Nat.reduceMul, Nat.reduceLeDiff, LN, true_and, and_true, if_true, if_false, Bool.not_true, Bool.not_false, Bool.false_eq_true, reduceIte, decide_true, decide_false, kd4, e_names, and_self]
  refine names_on (count := 3) hB (by decide) (by decide) (by decide) fun xs S2 hl hnd hnm st2 => ?_
  have hB2 := st2.bag
  clear hB st2
  refine good_on hB2 (fun x hx => ?_) (by rw [List.length_map]; exact hl) fun k a b r s t h p S3 st3 Rb hno => ?_
  · obtain ⟨z, hz, rfl⟩ := List.mem_map.mp hx
    obtain ⟨l, rfl, p1, p2, p3⟩ := hnm z hz
    exact ⟨l, rfl, p1, by omega, p3⟩
  have hB3 := st3.bag
  clear hB2 st3
  refine h2 _ _ ?_
  clear h2 R2
  refine seq_i fun R2 h2 => ?_
  simp only [von_nil, von_pass, von_break, von_cont, von_retN, von_expr, von_ret, von_if, von_set, von_asg, von_par2, von_par3, von_for, von_var, von_C, von_aNil, von_aCons, von_tup, von_lst, von_lstM, von_opE, von_tV, von_chain, von_tAn, von_tOr, von_tNo, von_and, von_or, von_not, von_eIf, von_call, von_callD, von_CB, von_isi, von_isis, von_pNo, von_pSo, von_sl, von_fmt, von_joined, von_runJ0, von_runJ1, von_M1, von_append, von_frz, von_iOf, von_iR1, von_iR2, von_lc, von_dct, so_some, so_none, so_bind, so_map, so_ite, on_ok, on_exc, on_bad, on_of, on_ite, on_iteB, on_runB, son_ite, son_nx, son_rt, son_bk, son_ct, son_exc, son_bad, po_nx, po_rt, po_bk, po_ct, po_ex, Po.fn, start0_eq, asB_bl, der_non, der_bl, der_int, der_str, der_tup, der_lst, der_dct, opAdd_int, opAdd_str, opAdd_tup, opAdd_lst, opSub_int, opMul_int, opDiv_int, opMod_int, opLt_int, opLe_int, opGt_int, opGe_int, opEq_int, opNe_int, opIx_tup, opIx_lst, at0, at1, at2, at3, at4, fInt_int, fLen_tup, fLen_lst, fLen_dct, fLen_str, gvName_ap, tYesV_ap, gvSub_var, Option.bind_some, Option.map_some, get0, getS, set0, setS, List.getElem?_cons_zero, List.getElem?_cons_succ, List.set_cons_zero, List.set_cons_succ, List.map_cons, List.map_nil, List.length_cons, List.length_nil, List.replicate_succ, List.replicate_zero, List.cons_append, List.nil_append, List.append_nil, Nat.reduceAdd, Nat.reduceSub, Int.reduceSub, Int.reduceNeg, Int.reduceAdd, Nat.reduceMul, Nat.reduceLeDiff, LN, true_and, and_true, if_true, if_false, Bool.not_true, Bool.not_false, Bool.false_eq_true, reduceIte, decide_true, decide_false]
  refine asked_on hB3 Rb fun S4 st4 => ?_
  have hB4 := st4.bag
  clear hB3 st4
  have es := same_due (o := none) erNil_ok S4
  have en : dueD none = .tup [] := rfl
  rw [en] at es
  simp only [von_nil, von_pass, von_break, von_cont, von_retN, von_expr, von_ret, von_if, von_set, von_asg, von_par2, von_par3, von_for, von_var, von_C, von_aNil, von_aCons, von_tup, von_lst, von_lstM, von_opE, von_tV, von_chain, von_tAn, von_tOr, von_tNo, von_and, von_or, von_not, von_eIf, von_call, von_callD, von_CB, von_isi, von_isis, von_pNo, von_pSo, von_sl, von_fmt, von_joined, von_runJ0, von_runJ1, von_M1, von_append, von_frz, von_iOf, von_iR1, von_iR2, von_lc, von_dct, so_some, so_none, so_bind, so_map, so_ite, on_ok, on_exc, on_bad, on_of, on_ite, on_iteB, on_runB, son_ite, son_nx, son_rt, son_bk, son_ct, son_exc, son_bad, po_nx, po_rt, po_bk, po_ct, po_ex, Po.fn, start0_eq, asB_bl, der_non, der_bl, der_int, der_str, der_tup, der_lst, der_dct, opAdd_int, opAdd_str, opAdd_tup, opAdd_lst, opSub_int, opMul_int, opDiv_int, opMod_int, opLt_int, opLe_int, opGt_int, opGe_int, opEq_int, opNe_int, opIx_tup, opIx_lst, at0, at1, at2, at3, at4, fInt_int, fLen_tup, fLen_lst, fLen_dct, fLen_str, gvName_ap, tYesV_ap, gvSub_var, Option.bind_some, Option.map_some, get0, getS, set0, setS, List.getElem?_cons_zero, List.getElem?_cons_succ, List.set_cons_zero, List.set_cons_succ, List.map_cons, List.map_nil, List.length_cons, List.length_nil, List.replicate_succ, List.replicate_zero, List.cons_append, List.nil_append, List.append_nil, Nat.reduceAdd, Nat.reduceSub, Int.reduceSub, Int.reduceNeg, Int.reduceAdd, Nat.reduceMul, Nat.reduceLeDiff, LN, true_and, and_true, if_true, if_false, Bool.not_true, Bool.not_false, Bool.false_eq_true, reduceIte, decide_true, decide_false, hno, en, es]
  refine h2 _ _ ?_
  clear h2 R2 es
  simp only [von_nil, von_pass, von_break, von_cont, von_retN, von_expr, von_ret, von_if, von_set, von_asg, von_par2, von_par3, von_for, von_var, von_C, von_aNil, von_aCons, von_tup, von_lst, von_lstM, von_opE, von_tV, von_chain, von_tAn, von_tOr, von_tNo, von_and, von_or, von_not, von_eIf, von_call, von_callD, von_CB, von_isi, von_isis, von_pNo, von_pSo, von_sl, von_fmt, von_joined, von_runJ0, von_runJ1, von_M1, von_append, von_frz, von_iOf, von_iR1, von_iR2, von_lc, von_dct, so_some, so_none, so_bind, so_map, so_ite, on_ok, on_exc, on_bad, on_of, on_ite, on_iteB, on_runB, son_ite, son_nx, son_rt, son_bk, son_ct, son_exc, son_bad, po_nx, po_rt, po_bk, po_ct, po_ex, Po.fn, start0_eq, asB_bl, der_non, der_bl, der_int, der_str, der_tup, der_lst, der_dct, opAdd_int, opAdd_str, opAdd_tup, opAdd_lst, opSub_int, opMul_int, opDiv_int, opMod_int, opLt_int, opLe_int, opGt_int, opGe_int, opEq_int, opNe_int, opIx_tup, opIx_lst, at0, at1, at2, at3, at4, fInt_int, fLen_tup, fLen_lst, fLen_dct, fLen_str, gvName_ap, tYesV_ap, gvSub_var, Option.bind_some, Option.map_some, get0, getS, set0, setS, List.getElem?_cons_zero, List.getElem?_cons_succ, List.set_cons_zero, List.set_cons_succ, List.map_cons, List.map_nil, List.length_cons, List.length_nil, List.replicate_succ, List.replicate_zero, List.cons_append, List.nil_append, List.append_nil, Nat.reduceAdd, Nat.reduceSub, Int.reduceSub, Int.reduceNeg, Int.reduceAdd, Nat.reduceMul, Nat.reduceLeDiff, LN, true_and, and_true, if_true, if_false, Bool.not_true, Bool.not_false, Bool.false_eq_true, reduceIte, decide_true, decide_false, e_take]
  refine take_on hB4 (by decide) (by decide) fun m S5 m0 m4 st5 _ => ?_
  have hB5 := st5.bag
  clear hB4 st5
  simp only [von_nil, von_pass, von_break, von_cont, von_retN, von_expr, von_ret, von_if, von_set, von_asg, von_par2, von_par3, von_for, von_var, von_C, von_aNil, von_aCons, von_tup, von_lst, von_lstM, von_opE, von_tV, von_chain, von_tAn, von_tOr, von_tNo, von_and, von_or, von_not, von_eIf, von_call, von_callD, von_CB, von_isi, von_isis, von_pNo, von_pSo, von_sl, von_fmt, von_joined, von_runJ0, von_runJ1, von_M1, von_append, von_frz, von_iOf, von_iR1, von_iR2, von_lc, von_dct, so_some, so_none, so_bind, so_map, so_ite, on_ok, on_exc, on_bad, on_of, on_ite, on_iteB, on_runB, son_ite, son_nx, son_rt, son_bk, son_ct, son_exc, son_bad, po_nx, po_rt, po_bk, po_ct, po_ex, Po.fn, start0_eq, asB_bl, der_non, der_bl, der_int, der_str, der_tup, der_lst, der_dct, opAdd_int, opAdd_str, opAdd_tup, opAdd_lst, opSub_int, opMul_int, opDiv_int, opMod_int, opLt_int, opLe_int, opGt_int, opGe_int, opEq_int, opNe_int, opIx_tup, opIx_lst, at0, at1, at2, at3, at4, fInt_int, fLen_tup, fLen_lst, fLen_dct, fLen_str, gvName_ap, tYesV_ap, gvSub_var, Option.bind_some, Option.map_some, get0, getS, set0, setS, List.getElem?_cons_zero, List.getElem?_cons_succ, List.set_cons_zero, List.set_cons_succ, List.map_cons, List.map_nil, List.length_cons, List.length_nil, List.replicate_succ, List.replicate_zero, List.cons_append, List.nil_append, List.append_nil, Nat.reduceAdd, Nat.reduceSub, Int.reduceSub, Int.reduceNeg, Int.reduceAdd, Nat.reduceMul, Nat.reduceLeDiff, LN, true_and, and_true, if_true, if_false, Bool.not_true, Bool.not_false, Bool.false_eq_true, reduceIte, decide_true, decide_false]
  refine ⟨⟨by omega, by omega⟩, forL_on (fun ds e S => Bag S b0 ∧ ∃ (x0 x2 x4 x5 : Option D) (row : List D), e = [x0, some (.loc b0), x2, some (.tup row), x4, x5] ∧ RowL row) ⟨hB5, _, _, _, _, _, rfl, k, a, b, r, s, t, h, p, rfl, Rb⟩ ?_ ?_⟩
  · intro e S ⟨hB, x0, x2, x4, x5, row, e, hr⟩
    exact ⟨hB, _, _, _, _, _, e⟩
  clear hB5 hno Rb
  intro d ds e S ⟨hB, x0, x2, x4, x5, row, he, hrow⟩
  subst he
  simp only [von_nil, von_pass, von_break, von_cont, von_retN, von_expr, von_ret, von_if, von_set, von_asg, von_par2, von_par3, von_for, von_var, von_C, von_aNil, von_aCons, von_tup, von_lst, von_lstM, von_opE, von_tV, von_chain, von_tAn, von_tOr, von_tNo, von_and, von_or, von_not, von_eIf, von_call, von_callD, von_CB, von_isi, von_isis, von_pNo, von_pSo, von_sl, von_fmt, von_joined, von_runJ0, von_runJ1, von_M1, von_append, von_frz, von_iOf, von_iR1, von_iR2, von_lc, von_dct, so_some, so_none, so_bind, so_map, so_ite, on_ok, on_exc, on_bad, on_of, on_ite, on_iteB, on_runB, son_ite, son_nx, son_rt, son_bk, son_ct, son_exc, son_bad, po_nx, po_rt, po_bk, po_ct, po_ex, Po.fn, start0_eq, asB_bl, der_non, der_bl, der_int, der_str, der_tup, der_lst, der_dct, opAdd_int, opAdd_str, opAdd_tup, opAdd_lst, opSub_int, opMul_int, opDiv_int, opMod_int, opLt_int, opLe_int, opGt_int, opGe_int, opEq_int, opNe_int, opIx_tup, opIx_lst, at0, at1, at2, at3, at4, fInt_int, fLen_tup, fLen_lst, fLen_dct, fLen_str, gvName_ap, tYesV_ap, gvSub_var, Option.bind_some, Option.map_some, get0, getS, set0, setS, List.getElem?_cons_zero, List.getElem?_cons_succ, List.set_cons_zero, List.set_cons_succ, List.map_cons, List.map_nil, List.length_cons, List.length_nil, List.replicate_succ, List.replicate_zero, List.cons_append, List.nil_append, List.append_nil, Nat.reduceAdd, Nat.reduceSub, Int.reduceSub, Int.reduceNeg, Int.reduceAdd, Nat.reduceMul, Nat.reduceLeDiff, LN, true_and, and_true, if_true, if_false, Bool.not_true, Bool.not_false, Bool.false_eq_true, reduceIte, decide_true, decide_false]
  refine seq_i fun R2 h2 => ?_
  have pick : ∀ S6 (n : Nat), Bag S6 b0 → 1 ≤ n → n ≤ 7 → R2 [x0, some (.loc b0), x2, some (.tup row), some d, some (.int n)] S6 := by
    intro S6 n hB6 h1 h7
    refine h2 _ _ ?_
    clear h2 R2
    refine seq_i fun R2 h2 => ?_
    have hrow0 := hrow
    obtain ⟨k, a, b, r, s, t, h, p, hre, Rb⟩ := hrow
    have en1 : ((n : Int) + 1) = ((n + 1 : Nat) : Int) := by omega
    have hlen := hrow0.len
    simp only [von_nil, von_pass, von_break, von_cont, von_retN, von_expr, von_ret, von_if, von_set, von_asg, von_par2, von_par3, von_for, von_var, von_C, von_aNil, von_aCons, von_tup, von_lst, von_lstM, von_opE, von_tV, von_chain, von_tAn, von_tOr, von_tNo, von_and, von_or, von_not, von_eIf, von_call, von_callD, von_CB, von_isi, von_isis, von_pNo, von_pSo, von_sl, von_fmt, von_joined, von_runJ0, von_runJ1, von_M1, von_append, von_frz, von_iOf, von_iR1, von_iR2, von_lc, von_dct, so_some, so_none, so_bind, so_map, so_ite, on_ok, on_exc, on_bad, on_of, on_ite, on_iteB, on_runB, son_ite, son_nx, son_rt, son_bk, son_ct, son_exc, son_bad, po_nx, po_rt, po_bk, po_ct, po_ex, Po.fn, start0_eq, asB_bl, der_non, der_bl, der_int, der_str, der_tup, der_lst, der_dct, opAdd_int, opAdd_str, opAdd_tup, opAdd_lst, opSub_int, opMul_int, opDiv_int, opMod_int, opLt_int, opLe_int, opGt_int, opGe_int, opEq_int, opNe_int, opIx_tup, opIx_lst, at0, at1, at2, at3, at4, fInt_int, fLen_tup, fLen_lst, fLen_dct, fLen_str, gvName_ap, tYesV_ap, gvSub_var, Option.bind_some, Option.map_some, get0, getS, set0, setS, List.getElem?_cons_zero, List.getElem?_cons_succ, List.set_cons_zero, List.set_cons_succ, List.map_cons, List.map_nil, List.length_cons, List.length_nil, List.replicate_succ, List.replicate_zero, List.cons_append, List.nil_append, List.append_nil, Nat.reduceAdd, Nat.reduceSub, Int.reduceSub, Int.reduceNeg, Int.reduceAdd, Nat.reduceMul, Nat.reduceLeDiff, LN, true_and, and_true, if_true, if_false, Bool.not_true, Bool.not_false, Bool.false_eq_true, reduceIte, decide_true, decide_false, sl_to, sl_from, en1]
    rw [hre]
    refine bad_on hB6 h1 h7 Rb.s fun x S7 st7 hx => ?_
    have hput := hrow0.put h1 h7 hx
    rw [← hre]
    have hB7 := st7.bag
    clear hB6 st7
    have hl2 := hput.len
    have l1 : ((row.take n).length + 1) ≤ 16777216 := by rw [List.length_take]; omega
    have l2 : ((row.take n ++ [x]).length + (row.drop (n + 1)).length) ≤ 16777216 := by rw [← List.length_append, hl2]; decide
    simp only [von_nil, von_pass, von_break, von_cont, von_retN, von_expr, von_ret, von_if, von_set, von_asg, von_par2, von_par3, von_for, von_var, von_C, von_aNil, von_aCons, von_tup, von_lst, von_lstM, von_opE, von_tV, von_chain, von_tAn, von_tOr, von_tNo, von_and, von_or, von_not, von_eIf, von_call, von_callD, von_CB, von_isi, von_isis, von_pNo, von_pSo, von_sl, von_fmt, von_joined, von_runJ0, von_runJ1, von_M1, von_append, von_frz, von_iOf, von_iR1, von_iR2, von_lc, von_dct, so_some, so_none, so_bind, so_map, so_ite, on_ok, on_exc, on_bad, on_of, on_ite, on_iteB, on_runB, son_ite, son_nx, son_rt, son_bk, son_ct, son_exc, son_bad, po_nx, po_rt, po_bk, po_ct, po_ex, Po.fn, start0_eq, asB_bl, der_non, der_bl, der_int, der_str, der_tup, der_lst, der_dct, opAdd_int, opAdd_str, opAdd_tup, opAdd_lst, opSub_int, opMul_int, opDiv_int, opMod_int, opLt_int, opLe_int, opGt_int, opGe_int, opEq_int, opNe_int, opIx_tup, opIx_lst, at0, at1, at2, at3, at4, fInt_int, fLen_tup, fLen_lst, fLen_dct, fLen_str, gvName_ap, tYesV_ap, gvSub_var, Option.bind_some, Option.map_some, get0, getS, set0, setS, List.getElem?_cons_zero, List.getElem?_cons_succ, List.set_cons_zero, List.set_cons_succ, List.map_cons, List.map_nil, List.length_cons, List.length_nil, List.replicate_succ, List.replicate_zero, List.cons_append, List.nil_append, List.append_nil, Nat.reduceAdd, Nat.reduceSub, Int.reduceSub, Int.reduceNeg, Int.reduceAdd, Nat.reduceMul, Nat.reduceLeDiff, LN, true_and, and_true, if_true, if_false, Bool.not_true, Bool.not_false, Bool.false_eq_true, reduceIte, decide_true, decide_false, sl_from, en1, l1, l2]
    refine ⟨by rw [List.length_take]; omega, h2 _ _ ?_⟩
    clear h2 R2
    obtain ⟨k, a, b, r, s, t, h, p, hre2, Rb2⟩ := hput
    rw [hre2]
    simp only [von_nil, von_pass, von_break, von_cont, von_retN, von_expr, von_ret, von_if, von_set, von_asg, von_par2, von_par3, von_for, von_var, von_C, von_aNil, von_aCons, von_tup, von_lst, von_lstM, von_opE, von_tV, von_chain, von_tAn, von_tOr, von_tNo, von_and, von_or, von_not, von_eIf, von_call, von_callD, von_CB, von_isi, von_isis, von_pNo, von_pSo, von_sl, von_fmt, von_joined, von_runJ0, von_runJ1, von_M1, von_append, von_frz, von_iOf, von_iR1, von_iR2, von_lc, von_dct, so_some, so_none, so_bind, so_map, so_ite, on_ok, on_exc, on_bad, on_of, on_ite, on_iteB, on_runB, son_ite, son_nx, son_rt, son_bk, son_ct, son_exc, son_bad, po_nx, po_rt, po_bk, po_ct, po_ex, Po.fn, start0_eq, asB_bl, der_non, der_bl, der_int, der_str, der_tup, der_lst, der_dct, opAdd_int, opAdd_str, opAdd_tup, opAdd_lst, opSub_int, opMul_int, opDiv_int, opMod_int, opLt_int, opLe_int, opGt_int, opGe_int, opEq_int, opNe_int, opIx_tup, opIx_lst, at0, at1, at2, at3, at4, fInt_int, fLen_tup, fLen_lst, fLen_dct, fLen_str, gvName_ap, tYesV_ap, gvSub_var, Option.bind_some, Option.map_some, get0, getS, set0, setS, List.getElem?_cons_zero, List.getElem?_cons_succ, List.set_cons_zero, List.set_cons_succ, List.map_cons, List.map_nil, List.length_cons, List.length_nil, List.replicate_succ, List.replicate_zero, List.cons_append, List.nil_append, List.append_nil, Nat.reduceAdd, Nat.reduceSub, Int.reduceSub, Int.reduceNeg, Int.reduceAdd, Nat.reduceMul, Nat.reduceLeDiff, LN, true_and, and_true, if_true, if_false, Bool.not_true, Bool.not_false, Bool.false_eq_true, reduceIte, decide_true, decide_false]
    refine asked_on hB7 Rb2 fun S8 st8 => ?_
    have hB8 := st8.bag
    simp only [von_nil, von_pass, von_break, von_cont, von_retN, von_expr, von_ret, von_if, von_set, von_asg, von_par2, von_par3, von_for, von_var, von_C, von_aNil, von_aCons, von_tup, von_lst, von_lstM, von_opE, von_tV, von_chain, von_tAn, von_tOr, von_tNo, von_and, von_or, von_not, von_eIf, von_call, von_callD, von_CB, von_isi, von_isis, von_pNo, von_pSo, von_sl, von_fmt, von_joined, von_runJ0, von_runJ1, von_M1, von_append, von_frz, von_iOf, von_iR1, von_iR2, von_lc, von_dct, so_some, so_none, so_bind, so_map, so_ite, on_ok, on_exc, on_bad, on_of, on_ite, on_iteB, on_runB, son_ite, son_nx, son_rt, son_bk, son_ct, son_exc, son_bad, po_nx, po_rt, po_bk, po_ct, po_ex, Po.fn, start0_eq, asB_bl, der_non, der_bl, der_int, der_str, der_tup, der_lst, der_dct, opAdd_int, opAdd_str, opAdd_tup, opAdd_lst, opSub_int, opMul_int, opDiv_int, opMod_int, opLt_int, opLe_int, opGt_int, opGe_int, opEq_int, opNe_int, opIx_tup, opIx_lst, at0, at1, at2, at3, at4, fInt_int, fLen_tup, fLen_lst, fLen_dct, fLen_str, gvName_ap, tYesV_ap, gvSub_var, Option.bind_some, Option.map_some, get0, getS, set0, setS, List.getElem?_cons_zero, List.getElem?_cons_succ, List.set_cons_zero, List.set_cons_succ, List.map_cons, List.map_nil, List.length_cons, List.length_nil, List.replicate_succ, List.replicate_zero, List.cons_append, List.nil_append, List.append_nil, Nat.reduceAdd, Nat.reduceSub, Int.reduceSub, Int.reduceNeg, Int.reduceAdd, Nat.reduceMul, Nat.reduceLeDiff, LN, true_and, and_true, if_true, if_false, Bool.not_true, Bool.not_false, Bool.false_eq_true, reduceIte, decide_true, decide_false, due_row Rb2, same_due (erRow_ok Rb2)]
    exact ⟨hB8, _, _, _, _, _, rfl, k, a, b, r, s, t, h, p, rfl, Rb2⟩
  obtain ⟨k, a, b, r, s, t, h, p, hre, Rb⟩ := hrow
  subst hre
  cases k with
  | true =>
    simp only [von_nil, von_pass, von_break, von_cont, von_retN, von_expr, von_ret, von_if, von_set, von_asg, von_par2, von_par3, von_for, von_var, von_C, von_aNil, von_aCons, von_tup, von_lst, von_lstM, von_opE, von_tV, von_chain, von_tAn, von_tOr, von_tNo, von_and, von_or, von_not, von_eIf, von_call, von_callD, von_CB, von_isi, von_isis, von_pNo, von_pSo, von_sl, von_fmt, von_joined, von_runJ0, von_runJ1, von_M1, von_append, von_frz, von_iOf, von_iR1, von_iR2, von_lc, von_dct, so_some, so_none, so_bind, so_map, so_ite, on_ok, on_exc, on_bad, on_of, on_ite, on_iteB, on_runB, son_ite, son_nx, son_rt, son_bk, son_ct, son_exc, son_bad, po_nx, po_rt, po_bk, po_ct, po_ex, Po.fn, start0_eq, asB_bl, der_non, der_bl, der_int, der_str, der_tup, der_lst, der_dct, opAdd_int, opAdd_str, opAdd_tup, opAdd_lst, opSub_int, opMul_int, opDiv_int, opMod_int, opLt_int, opLe_int, opGt_int, opGe_int, opEq_int, opNe_int, opIx_tup, opIx_lst, at0, at1, at2, at3, at4, fInt_int, fLen_tup, fLen_lst, fLen_dct, fLen_str, gvName_ap, tYesV_ap, gvSub_var, Option.bind_some, Option.map_some, get0, getS, set0, setS, List.getElem?_cons_zero, List.getElem?_cons_succ, List.set_cons_zero, List.set_cons_succ, List.map_cons, List.map_nil, List.length_cons, List.length_nil, List.replicate_succ, List.replicate_zero, List.cons_append, List.nil_append, List.append_nil, Nat.reduceAdd, Nat.reduceSub, Int.reduceSub, Int.reduceNeg, Int.reduceAdd, Nat.reduceMul, Nat.reduceLeDiff, LN, true_and, and_true, if_true, if_false, Bool.not_true, Bool.not_false, Bool.false_eq_true, reduceIte, decide_true, decide_false, opEq_str, wd_t, ww, e_of]
    refine of_lst hB (by simp) (by simp) fun x S6 hm st6 _ => ?_
    simp only [List.mem_cons, List.not_mem_nil, or_false] at hm
    rcases hm with rfl | rfl | rfl | rfl | rfl | rfl | rfl | rfl | rfl
    · exact pick S6 1 st6.bag (by decide) (by decide)
    · exact pick S6 2 st6.bag (by decide) (by decide)
    · exact pick S6 3 st6.bag (by decide) (by decide)
    · exact pick S6 5 st6.bag (by decide) (by decide)
    · exact pick S6 5 st6.bag (by decide) (by decide)
    · exact pick S6 6 st6.bag (by decide) (by decide)
    · exact pick S6 7 st6.bag (by decide) (by decide)
    · exact pick S6 4 st6.bag (by decide) (by decide)
    · exact pick S6 4 st6.bag (by decide) (by decide)
  | false =>
    simp only [von_nil, von_pass, von_break, von_cont, von_retN, von_expr, von_ret, von_if, von_set, von_asg, von_par2, von_par3, von_for, von_var, von_C, von_aNil, von_aCons, von_tup, von_lst, von_lstM, von_opE, von_tV, von_chain, von_tAn, von_tOr, von_tNo, von_and, von_or, von_not, von_eIf, von_call, von_callD, von_CB, von_isi, von_isis, von_pNo, von_pSo, von_sl, von_fmt, von_joined, von_runJ0, von_runJ1, von_M1, von_append, von_frz, von_iOf, von_iR1, von_iR2, von_lc, von_dct, so_some, so_none, so_bind, so_map, so_ite, on_ok, on_exc, on_bad, on_of, on_ite, on_iteB, on_runB, son_ite, son_nx, son_rt, son_bk, son_ct, son_exc, son_bad, po_nx, po_rt, po_bk, po_ct, po_ex, Po.fn, start0_eq, asB_bl, der_non, der_bl, der_int, der_str, der_tup, der_lst, der_dct, opAdd_int, opAdd_str, opAdd_tup, opAdd_lst, opSub_int, opMul_int, opDiv_int, opMod_int, opLt_int, opLe_int, opGt_int, opGe_int, opEq_int, opNe_int, opIx_tup, opIx_lst, at0, at1, at2, at3, at4, fInt_int, fLen_tup, fLen_lst, fLen_dct, fLen_str, gvName_ap, tYesV_ap, gvSub_var, Option.bind_some, Option.map_some, get0, getS, set0, setS, List.getElem?_cons_zero, List.getElem?_cons_succ, List.set_cons_zero, List.set_cons_succ, List.map_cons, List.map_nil, List.length_cons, List.length_nil, List.replicate_succ, List.replicate_zero, List.cons_append, List.nil_append, List.append_nil, Nat.reduceAdd, Nat.reduceSub, Int.reduceSub, Int.reduceNeg, Int.reduceAdd, Nat.reduceMul, Nat.reduceLeDiff, LN, true_and, and_true, if_true, if_false, Bool.not_true, Bool.not_false, Bool.false_eq_true, reduceIte, decide_true, decide_false, opEq_str, wd_f, hw, e_of]
    refine of_lst hB (by simp) (by simp) fun x S6 hm st6 _ => ?_
    simp only [List.mem_cons, List.not_mem_nil, or_false] at hm
    rcases hm with rfl | rfl | rfl | rfl | rfl | rfl | rfl
    · exact pick S6 1 st6.bag (by decide) (by decide)
    · exact pick S6 2 st6.bag (by decide) (by decide)
    · exact pick S6 3 st6.bag (by decide) (by decide)
    · exact pick S6 5 st6.bag (by decide) (by decide)
    · exact pick S6 5 st6.bag (by decide) (by decide)
    · exact pick S6 6 st6.bag (by decide) (by decide)
    · exact pick S6 7 st6.bag (by decide) (by decide)
theorem law_true (ns : List Int) (hn : ns.length ≤ 63) : ∃ S', m_law [.frz (ns.map .int)] [] = .ok (.bl true) S' := by
  have h := law_on ns hn
  unfold Ret.oo Ret.on at h
  cases e : m_law [.frz (ns.map .int)] [] with
  | ok a S => rw [e] at h; have h : a = .bl true := h; rw [h]; exact ⟨S, rfl⟩
  | exc x S => rw [e] at h; exact (show False from h).elim
  | bad => rw [e] at h; exact (show False from h).elim
end KG

open PySem PySem.W PySem.Calls PyProof.Rows
set_option maxRecDepth 100000 in
set_option maxHeartbeats 0 in
theorem PySem.Challenge.cw_standworth_k07_askings_refused_holds : PySem.Challenge.rw_standworth_k07_askings_refused.Holds := by
  w_on; o_law
  refine HandSHeadRun.head_any (r := KG.R) (q := view KG.R.prog [37]) (H := KG.hkX) (ob := KG.obH) (M := 6000) (loose := KG.loose) (d := HandSHeadRun.topDef KG.R.prog 37) (kwd := []) KG.obH_eq
    (by kernel_rfl) (fun s => by kernel_rfl) KG.headRun (by kernel_rfl) (by kernel_rfl) (by kernel_rfl) (by rfl) (by first | assumption | decide +kernel) (by decide +kernel) ⟨rfl, rfl, rfl, rfl, rfl, by decide +kernel⟩ ?hw ?hc
  case hw => w_witness2
  case hc =>
    refine DL.law_walkT (l := PySem.Challenge.rw_standworth_k07_askings_refused) (k := 10) (x := "_law_script") rfl (by kernel_rfl) ⟨rfl, by decide, by decide⟩ ?F
    intro w mg fa h Y G hmg0
    obtain ⟨K, KX, c⟩ := Y
    have hmg : mg ("law" : PySem.Str) = some (.ref fa) := by
      have e : (HandSHeadRun.topDef KG.R.prog 37).name = ("law" : PySem.Str) := by kernel_rfl
      rw [← e]
      exact hmg0
    obtain ⟨T⟩ := KG.facts KX G c
    have e := hmg.symm.trans T.g_law
    cases e
    exact ⟨KG.gg K, T.fd_law, KG.m_law, KG.tf.map (He.cT K), KX, fun s u => L2.FunD.bindsA (ps := ["_law_script"]) T.F_law (fun _ _ _ _ _ _ us hl => match us, hl with | [_], _ => rfl) s [u] rfl, KG.law_true,
      fun p hp => (let ⟨q, hq, e⟩ := List.mem_map.mp hp; e ▸ c.empty q hq), fun p hp => (let ⟨q, hq, e⟩ := List.mem_map.mp hp; e ▸ c.out q hq), c.codeHd KX, KG.tabs K, fun base _ _ TB => KG.ok_law T TB⟩
