import PyProof.Rows.All
import Wide.All
import OpenK.AllK
import Wide.FinOn
import Open.SpecLaws
import KE.OsGo
import HandS.ForSpec
import HandS.ForMost
import HandS.TryMany
import HandS.More
import HandS.StrMore
import HandS.Strs
import HandS.Evl
import HandS.Steps
import HandS.TupAny
import HandS.SortInts
import HandS.ExcInit
import HandS.ExcField
import HandS.Flow
import HandS.FStr
import HandS.Codes
import HandS.Conv
import HandS.Walk
import PySem.Challenge.RW_twosessions_s01_answers
import HandS.TupSets
import HandS.SetFor
import HandS.SetKeys
import HandS.Zip
import PyProof.DictMoreH
import KE.GoesMore
import KE.KEqNest
set_option Elab.async false
set_option maxRecDepth 100000
set_option maxHeartbeats 4000000
set_option linter.all false
/-! ### what asks for much memory goes first, where the text is young: the look at the program, and the head (the program's top, run) as a theorem of its own -/
theorem Tw.well : PySem.Challenge.rw_twosessions_s01_answers.wellSaid = true := by decide +kernel
section
open PySem PySem.W PyProof.Rows
local macro_rules | `(tactic| o_law) => `(tactic| have hwell0 := Tw.well)
local macro_rules | `(tactic| k_head) => `(tactic| k_headS)
local macro_rules | `(tactic| w_witness2) => `(tactic| exact ⟨[.list [.int 1]], by decide +kernel, by decide +kernel⟩)
set_option maxHeartbeats 80000000 in
open_top Tw.hd for PySem.Challenge.rw_twosessions_s01_answers
end
namespace Tw
open PySem PySem.Spec PyProof.Rows L2
/-- the i-th statement of the program's text -/
def top (i : Nat) : Stmt := PySem.Challenge.pw_twosessions_s01_answers.main.body.getD i (.Pass ⟨0, 0, 0, 0⟩)
end Tw
/-! An own error class over Exception with an __init__ of its own that stores what it is handed: the rules for it (the layer has them over ValueError). -/
namespace Tw
open PySem PySem.W PySem.Calls PyProof.Rows PySem.HandSPX Builtin Builtin.ObjectAttr
abbrev eTl : List Value := [.type "Exception", .type "BaseException", .type "object"]
theorem pass_e (self : Value) (C : Addr) : refuseLoop self "__setattr__" (.ref C :: eTl) = pure () :=
  (refuseLoop_ref ..).trans (F.store_Exception.passes self)
section
variable {prog : Program} {w : World} {A : Around} {R : Result → Shared → Prop} {hp : Heap} {gs : Array GenState} {dr : Drawn} {tk : Nat} {oss : OsState}
variable {K : Frag} {nme : Str} {tn : Tok} {val : Value} {x C dx : Addr} {fv : Array Value} {cd : ClassData}
theorem sub_obj (X : K.In hp) {ob : Obj} {od : Option Obj} (I : InstAt hp x ob C od) (hcd : clsIn K C = some cd) (hm : cd.mro = .ref C :: eTl) : Looks (model prog w) hp (isInstance (.ref x) (.type "object")) true := by
  refine I.type.andThen (looks_mroIn X ?_)
  unfold mroIn
  rw [hcd, Option.bind_some, hm]
  rfl
theorem sto_new (X : K.In hp) (hx : hp.get? x = some { cls := .ref C, data := .fields fv }) (hcd : clsIn K C = some cd) (hm : cd.mro = .ref C :: eTl) (hh : cd.hasDict = true) (ha : findIn K (.ref C) nme = some none)
    (fin : ∀ h2 t2 d2, (∀ b o, b ≠ x → hp.get? b = some o → h2.get? b = some o) → hp.objs.size ≤ d2 → d2 ≠ x → h2.get? x = some { cls := .ref C, dict := some d2, data := .fields fv } →
      h2.Ns1 d2 (fun y => if y = nme then some val else none) → R (.ok (.ret .none)) ⟨h2, gs, dr, t2, oss⟩) :
    codeAny (model prog w) A (.call (.builtin "object.__setattr__") ⟨[.ref x, .str nme tn, val], []⟩) R ⟨hp, gs, dr, tk, oss⟩ := by
  have inst : InstAt hp x { cls := .ref C, data := .fields fv } C none := ⟨hx, rfl, rfl, trivial⟩
  have nsz : x ≠ hp.objs.size := Nat.ne_of_lt (Heap.lt_size hx)
  have S := F.store_object
  refine codeAny_call_builtin S.slot.plain S.entry (@check_slot (model prog w) _ _ ⟨hp, gs, dr, tk, oss⟩ "object.__setattr__" "object" "__setattr__" (.ref x) [.str nme tn, val] [] _ S.kind S.split (sub_obj X inst hcd hm) (S.args (.ref x) (.str nme tn) val) ?_)
  have lm : Looks (model prog w) hp (mroOf (.ref C)) cd.mro := (looks_clsIn X hcd).andThen .now
  have lt : Looks (model prog w) hp (storeTaker? none) none := .now
  have lc : Looks (model prog w) hp (classData C) cd := looks_clsIn X hcd
  rw [osa_eq, refuse_eq]
  refine wpAny_bind (wpAny_bind (inst.type.at (wpAny_bind (lm.at ?_))))
  rw [hm, pass_e]
  refine wpAny_pure (wpAny_bind (inst.type.at (wpAny_bind ((looks_findIn X ha).at (wpAny_bind (lt.at ?_))))))
  show wpAny _ _ (storeInOwnDict (.ref x) (.ref C) (.str nme tn) nme val false) _ _ _
  cases cd with
  | mk a1 a2 a3 a4 a5 hd a7 a8 a9 b1 b2 =>
  have hh : hd = true := hh
  subst hh
  unfold storeInOwnDict ownDictForStores
  repeat (first | with_reducible refine store_in_new ?_ ?_ | with_reducible refine wpAny_loadPart_at hx ?_ | with_reducible refine lc.at ?_ | wp_step)
  · refine ⟨_, #[], _, (Heap.get?_update_ne _ _ _ _ nsz.symm).trans (Heap.get?_push_at rfl rfl), rfl, fun e he => absurd he (by simp), fun _ => rfl⟩
  · intro h2 t2 hn hs
    have hx2 : (hp.push { cls := .type "dict", data := .dict #[] }).get? x = some { cls := .ref C, data := .fields fv } := Heap.get?_push_of_some _ hx
    refine fin h2 t2 hp.objs.size (fun b o hb ho => ?_) (Nat.le_refl _) nsz.symm ?_ hn
    · refine (hs.2 b (Nat.ne_of_lt (Heap.lt_size ho))).trans ?_
      exact (Heap.get?_update_ne _ _ _ _ hb).trans (Heap.get?_push_of_some _ ho)
    · exact (hs.2 x nsz).trans (Heap.get?_update_self _ hx2 rfl)
theorem sto_old {m0 : Str → Option Value} {nl : List Str} (X : K.In hp) (hx : hp.get? x = some { cls := .ref C, dict := some dx, data := .fields fv }) (hns : hp.Ns1 dx m0) (hw : Within m0 nl) (hz : nl.length ≤ 1000)
    (hcd : clsIn K C = some cd) (hm : cd.mro = .ref C :: eTl) (hh : cd.hasDict = true) (ha : findIn K (.ref C) nme = some none)
    (fin : ∀ h2 t2, (∀ b o, b ≠ dx → hp.get? b = some o → h2.get? b = some o) → h2.Ns1 dx (fun y => if y = nme then some val else m0 y) → R (.ok (.ret .none)) ⟨h2, gs, dr, t2, oss⟩) :
    codeAny (model prog w) A (.call (.builtin "object.__setattr__") ⟨[.ref x, .str nme tn, val], []⟩) R ⟨hp, gs, dr, tk, oss⟩ := by
  obtain ⟨oD, eD, pD, hoD, hdD, _⟩ := hns.count hw
  have inst : InstAt hp x { cls := .ref C, dict := some dx, data := .fields fv } C (some oD) := ⟨hx, rfl, rfl, hoD⟩
  have S := F.store_object
  refine codeAny_call_builtin S.slot.plain S.entry (@check_slot (model prog w) _ _ ⟨hp, gs, dr, tk, oss⟩ "object.__setattr__" "object" "__setattr__" (.ref x) [.str nme tn, val] [] _ S.kind S.split (sub_obj X inst hcd hm) (S.args (.ref x) (.str nme tn) val) ?_)
  have lm : Looks (model prog w) hp (mroOf (.ref C)) cd.mro := (looks_clsIn X hcd).andThen .now
  have lt : Looks (model prog w) hp (storeTaker? none) none := .now
  have lc : Looks (model prog w) hp (classData C) cd := looks_clsIn X hcd
  rw [osa_eq, refuse_eq]
  refine wpAny_bind (wpAny_bind (inst.type.at (wpAny_bind (lm.at ?_))))
  rw [hm, pass_e]
  refine wpAny_pure (wpAny_bind (inst.type.at (wpAny_bind ((looks_findIn X ha).at (wpAny_bind (lt.at ?_))))))
  show wpAny _ _ (storeInOwnDict (.ref x) (.ref C) (.str nme tn) nme val false) _ _ _
  cases cd with
  | mk a1 a2 a3 a4 a5 hd a7 a8 a9 b1 b2 =>
  have hh : hd = true := hh
  subst hh
  unfold storeInOwnDict ownDictForStores
  repeat (first | with_reducible refine OEX.store_in_old hns hw hz ?_ | with_reducible refine wpAny_loadPart_at hx ?_ | with_reducible refine lc.at ?_ | wp_step)
  intro h2 t2 hn hs
  exact fin h2 t2 (fun b o hb ho => (hs.2 b hb).trans ho) hn
end
end Tw
namespace Tw
open PySem PySem.Spec PyProof.Rows L2 PySem.Calls
/-- what the written part says of such a class -/
structure EcC (K : PySem.W.Frag) (C : Addr) : Prop where
  cls : ∃ nm q N bs sn sub ab col dd k0 k1 k2 k3 k5, K.lookup C = some (excClassObj nm q C N bs eTl true sn sub ab col dd k0 k1 k2 k3 k5 "Exception.__new__")
  sa : PySem.W.findIn K (.ref C) "__setattr__" = some (some (.builtin "object.__setattr__"))
  exC : PySem.W.subIn K (.ref C) (.type "BaseException") = some true
  tyC : PySem.W.typeIn K (.ref C) = some (.type "type")
  kC : PySem.W.keepIn K (.ref C) = true
section
variable {X : Cx} {pins : List (Addr × Obj)} {σ : L2.St} {H : Hp} {s : Shared} {a C dx : Addr} {f : Str} {y : V} {u : Value} {fs : List (Str × V)} {Q : Unit → Shared → Prop} {E : Value → Shared → Prop} {A : Around}
theorem ec_cls {K : PySem.W.Frag} {C : Addr} (T : EcC K C) : ∃ cd, PySem.W.clsIn K C = some cd ∧ cd.mro = .ref C :: eTl ∧ cd.hasDict = true := by
  obtain ⟨nm, q, N, bs, sn, sub, ab, col, dd, k0, k1, k2, k3, k5, hC⟩ := T.cls
  refine ⟨{ name := nm, bases := bs, mro := .ref C :: eTl, ns := N, qualname := q, hasDict := true, slotNames := sn, subclasses := sub, abstract := ab, collection := col, hasDel := false }, ?_, rfl, rfl⟩
  unfold PySem.W.clsIn
  rw [hC] <;> rfl
/-- self.f = y, the first -/
theorem est_new (T : EcC X.K C) (I : Inv X pins σ H s) (e : H a = some (exo a C none)) (hno : PySem.W.findIn X.K (.ref C) f = some none) (ry : RelV y u)
    (h : ∀ d2 s', H d2 = none → d2 ≠ a → Inv X pins σ (upd (upd H d2 (exd d2 [(f, y)])) a (exo a C (some d2))) s' → Q () s') : wpAny (model X.prog X.w) A (setAttr (.ref a) f u) Q E s := by
  obtain ⟨cd, hcl, hm, hh⟩ := ec_cls T
  obtain ⟨t1, ho⟩ := exo_at I.hok e
  obtain ⟨hp, g, d, t, os⟩ := s
  refine PySem.W.set_plain I.kIn (ox := ⟨.ref C, none, .fields #[.ref t1, .none, .none, .none, .bool false, .none], #[]⟩) (od := none) ⟨ho, rfl, rfl, trivial⟩ T.sa ?_
  refine sto_new I.kIn ho hcl hm hh hno (fun h' tk' d2 k dn dne hx hn => ?_)
  have fresh : H d2 = none := I.hok.fresh dn
  have older : ∀ {b : Addr} {o : Obj}, hp.get? b = some o → b ≠ d2 := fun {b o} q => Nat.ne_of_lt (Nat.lt_of_lt_of_le (Heap.lt_size q) dn)
  have other : ∀ {b : Addr}, H b = none → b ≠ a := fun {b} n z => by rw [z, e] at n; cases n
  have un : Un X.fs [] H (upd (upd H d2 (exd d2 [(f, y)])) a (exo a C (some d2))) hp h' := {
    keep := fun b o q n _ _ => k b o (other n) q
    slot := fun b o q n _ _ => ⟨o.slots, k b o (other n) q⟩
    free := fun b o q n _ => by rw [upd_ne (other n), upd_ne (older q)]; exact n
    there := fun b o q _ => Or.elim (Classical.em (b = a)) (fun hb => ⟨_, hb ▸ hx⟩) fun hb => ⟨o, k b o hb q⟩
    tups := fun b xs q => by rw [upd_ne (at_ne e q exo_tup)]; exact (upd_ne (ne_of_none q fresh)).trans q
    frzs := fun b o v q => by rw [upd_ne (at_ne e q exo_frz)]; exact (upd_ne (ne_of_none q fresh)).trans q
    tbls := fun b ps q => ⟨#[], by rw [upd_ne (at_ne e q exo_tbl)]; simpa using (upd_ne (ne_of_none q fresh)).trans q⟩ }
  refine h d2 _ fresh dne (I.un (t' := tk') un fun b o q => ?_)
  by_cases hb : b = a
  · rw [hb, upd_same] at q
    obtain rfl := Option.some.inj q
    rw [hb]; exact exo_ok hx
  rw [upd_ne hb] at q
  by_cases hd : b = d2
  · rw [hd, upd_same] at q
    obtain rfl := Option.some.inj q
    rw [hd]; exact exd_ok hn (relO_put (fs := []) ry fun g => True.intro)
  rw [upd_ne hd] at q
  refine (I.hok b o q).stay (fun c v hc z => k c v ?_ z) (fun c hc => ?_) (fun c xs hc => ?_)
  · rcases hc with hc | hc
    · rw [hc]; exact hb
    · exact at_ne e hc exo_own
  · rw [upd_ne (at_ne e hc exo_own)]; exact (upd_ne (ne_of_none hc fresh)).trans hc
  · rw [upd_ne (at_ne e hc exo_tup)]; exact (upd_ne (ne_of_none hc fresh)).trans hc
/-- self.f = y, a further one -/
theorem est_old (T : EcC X.K C) (I : Inv X pins σ H s) (e : H a = some (exo a C (some dx))) (ed : H dx = some (exd dx fs)) (hl : fs.length ≤ 900) (hno : PySem.W.findIn X.K (.ref C) f = some none) (ry : RelV y u)
    (h : ∀ s', Inv X pins σ (upd H dx (exd dx ((f, y) :: fs))) s' → Q () s') : wpAny (model X.prog X.w) A (setAttr (.ref a) f u) Q E s := by
  obtain ⟨cd, hcl, hm, hh⟩ := ec_cls T
  obtain ⟨t1, ho⟩ := exo_at I.hok e
  obtain ⟨mA, hns, rel⟩ := exd_at I.hok ed
  have hw := within_of rel
  obtain ⟨hp, g, d, t, os⟩ := s
  obtain ⟨oD, _, _, hoD, _, _⟩ := hns.count hw
  refine PySem.W.set_plain I.kIn (ox := ⟨.ref C, some dx, .fields #[.ref t1, .none, .none, .none, .bool false, .none], #[]⟩) (od := some oD) ⟨ho, rfl, rfl, hoD⟩ T.sa ?_
  refine sto_old I.kIn ho hns hw (by rw [List.length_map]; omega) hcl hm hh hno (fun h' tk' k hn => ?_)
  have there : ∃ o, h'.get? dx = some o := by
    obtain ⟨o, _, _, e', _⟩ := hn
    exact ⟨o, e'⟩
  exact h _ (I.write (t' := tk') (x := dx) (e := dx) (o := exd dx ((f, y) :: fs)) (by rw [ed]; trivial) (.inl rfl) k there (exd_ok hn (relO_put ry rel)))
/-- self.f = e -/
def tEst (K : PySem.W.Frag) (f : Str) (to te : TE) : TS := fun D σ H => te σ H fun y H1 => to σ H1 fun x H2 => ∃ a C : Addr, x = .ref a ∧ EcC K C ∧ PySem.W.findIn K (.ref C) f = some none ∧
  ((H2 a = some (exo a C none) ∧ ∀ d2, H2 d2 = none → d2 ≠ a → D.nx σ (upd (upd H2 d2 (exd d2 [(f, y)])) a (exo a C (some d2)))) ∨
    ∃ (d2 : Addr) (fs : List (Str × V)), H2 a = some (exo a C (some d2)) ∧ H2 d2 = some (exd d2 fs) ∧ fs.length ≤ 900 ∧ D.nx σ (upd H2 d2 (exd d2 ((f, y) :: fs))))
theorem ps_est {X : Cx} {o e : Expr} {to te : TE} {f : Str} {p' pos : Pos} (ho : PE X o to) (he : PE X e te) (hs : swapsWith e (some (.Attribute o f p')) pos.line X.env = pure false := by rfl) : PS X (.Assign [.Attribute o f p'] e pos) (tEst X.K f to te) := by
  refine ⟨fun pins s σ H D I h => plainObj_wpAny_Assign_Attribute (thn (he.run pins s σ H _ I h) fun v s1 ⟨y, H1, I1, r1, q1⟩ => thn (ho.run pins s1 σ H1 _ I1 q1) fun u s2 ⟨x, H2, I2, r2, a, C, ex, T, hno, q⟩ => ?_) hs⟩
  subst ex
  obtain rfl : u = Value.ref a := r2
  rcases q with ⟨ea, q⟩ | ⟨d2, fs, ea, ed, hl, q⟩
  · exact est_new T I2 ea hno r1 fun d2 s' n ne J => ⟨σ, _, J, q d2 n ne⟩
  · exact est_old T I2 ea ed hl hno r1 fun s' J => ⟨σ, _, J, q⟩
/-- C(e, ..), C's own __init__ keeping sp -/
theorem pmk_ec {X : Cx} {CX : CXT} {x : Str} {C fI : Addr} {k : Nat} {fd : FuncData} {ps : List Str} {sp : Sp} {e : Expr} {es : List Expr} {ta : TA} {p pos : Pos} (T : EcC X.K C) (iC : PySem.W.findIn X.K (.ref C) "__init__" = some (some (.ref fI)))
    (tI : PySem.W.typeIn X.K (.ref fI) = some (.type "function")) (F1 : FnOk X.prog X.w X.K X.mg X.base CX k fI fd ps sp) (hr : Room (k + 1) X.A) (hb : Binds X.K fd ps []) (hx : Passes CX X (fun _ _ _ => False)) (hm : X.mg x = some (.ref C)) (ha : PA X (e :: es) ta)
    (hg : Gl X x := by rfl) (hdb : (x == ("__debug__" : Str)) = false := by decide) (he : starEach (e :: es) X.env = (false, eval e X.env) :: starEach es X.env := by rfl) (hpl : (backTo pos (starEach es X.env)).any (·.1) = false := by rfl) :
    PMk X (.Call (.Name x p) (e :: es) [] pos) (tMkO C sp [] ta) := by
  intro pins s σ H Q I h
  obtain ⟨nm, q, N, bs, sn, sub, ab, col, dd, k0, k1, k2, k3, k5, hC⟩ := T.cls
  refine wpAny_Call_Name_kw (ld_glob I hg hm ?_ hdb)
  refine PySem.W.callWith_K (h₀ := X.base) I.ok.mod.kin T.kC (thn (ha.run pos pins s σ H _ I h) fun us s1 ⟨vs, H1, I1, r1, hz, q1⟩ => ⟨I1.kIn, ?_⟩) he hpl
  show wpAny _ _ (call (.ref C) us) _ _ _
  obtain ⟨hp, g, dr, tk, os⟩ := s1
  have below : hp.objs.size ≤ hp.objs.size + 1 := Nat.le_succ _
  have hq := q1 (hp.objs.size + 1) (I1.hok.fresh below)
  have kk : ∀ b o, hp.get? b = some o → ((hp.push (PySem.W.kdv_tup us)).push (PySem.HandSPX.excO C hp.objs.size)).get? b = some o :=
    fun b o e => Heap.get?_push_of_some _ (Heap.get?_push_of_some _ e)
  have here : ((hp.push (PySem.W.kdv_tup us)).push (PySem.HandSPX.excO C hp.objs.size)).get? (hp.objs.size + 1) = some (PySem.HandSPX.excO C hp.objs.size) := by heap_get
  have I2 := I1.laid (t' := tk) (a := hp.objs.size + 1) (o := exo (hp.objs.size + 1) C none) (h' := (hp.push (PySem.W.kdv_tup us)).push (PySem.HandSPX.excO C hp.objs.size)) kk below (exo_ok here)
  have r2 : Vals (V.ref (hp.objs.size + 1) :: (vs ++ [])) (Value.ref (hp.objs.size + 1) :: (us ++ [])) := .cons rfl (r1.append .nil)
  have hl : (Value.ref (hp.objs.size + 1) :: us ++ []).length = ps.length := by
    have z := r2.length
    rw [F1.len _ _ _ _ hq] at z
    exact z.symm
  have hus : us.length ≤ sizeLine := by rw [← Paired.length r1, sizeLine_eq]; omega
  have hbd := hb ⟨(hp.push (PySem.W.kdv_tup us)).push (PySem.HandSPX.excO C hp.objs.size), g, dr, tk, os⟩ (Value.ref (hp.objs.size + 1) :: us) I2.kIn hl
  rw [List.cons_append] at hbd
  refine wpAny_call (PySem.HandSPX.call_own F.excBase_Exception (fun Y => rfl) (I1.kIn _ _ hC) (PySem.W.looks_findIn I1.kIn iC) (fun self => PySem.W.bind_fn I1.kIn self tI) hus
    (codeAny_mono (F1.run _ X.stack _ _ ⟨Value.ref (hp.objs.size + 1) :: us, []⟩ (Value.ref (hp.objs.size + 1) :: (us ++ [])) _ _ (fun _ _ _ => False) (hr.make C us []) (I2.env0.make C us []) hbd r2 hq) fun r s' hq' => ?_))
  cases r with
  | error er => exact hx pins σ _ _ er s' I2 hq'
  | ok fl =>
    cases fl with
    | ret u =>
      obtain ⟨v, H2, os2, bare2, un2, hok2, rv, ev, d, fs, ea, ed, hd1, q2⟩ := hq'
      subst ev
      cases s' with
      | mk h2 g2 d2 t2 os' => exact ⟨rv, mk_end (raises_own T.exC T.tyC) I1 below kk un2 hok2 os2 bare2 ea ed hd1 q2⟩
    | next => cases hq'
    | brk => cases hq'
    | cont => cases hq'
end
end Tw
namespace Tw
open PySem PySem.Spec PyProof.Rows L2
/-! ### tests -/
theorem ifd {p : Prop} [Decidable p] {A B : Prop} (h1 : p → A) (h2 : ¬ p → B) : if decide p = true then A else B := by
  by_cases h : p
  · rw [if_pos (decide_eq_true h)]; exact h1 h
  · rw [if_neg (by rw [decide_eq_false h]; exact Bool.false_ne_true)]; exact h2 h
theorem ifnd {p : Prop} [Decidable p] {A B : Prop} (h1 : ¬ p → A) (h2 : p → B) : if (!decide p) = true then A else B := by
  by_cases h : p
  · rw [if_neg (by rw [decide_eq_true h]; decide)]; exact h2 h
  · rw [if_pos (by rw [decide_eq_false h]; decide)]; exact h1 h
theorem ifb {b : Bool} {A B : Prop} (h1 : b = true → A) (h2 : b = false → B) : if b = true then A else B := by
  cases b with
  | true => rw [if_pos rfl]; exact h1 rfl
  | false => rw [if_neg Bool.false_ne_true]; exact h2 rfl
theorem ifnb {b : Bool} {A B : Prop} (h1 : b = false → A) (h2 : b = true → B) : if (!b) = true then A else B := by
  cases b with
  | true => exact iteF (h2 rfl)
  | false => exact iteT (h1 rfl)
/-- a place where a reading stops -/
structure Nx (p : Prop) : Prop where
  h : p
/-- in a while's turn: what the next turn wants -/
theorem wnx {m : Nat} {I : Nat → L2.St → Hp → Prop} {R : (L2.St → Hp → Prop) → Prop} (h : R (fun σ' H' => Nx (∃ m', m' < m ∧ I m' σ' H'))) : ∃ N : L2.St → Hp → Prop, (∀ σ' H', N σ' H' → ∃ m', m' < m ∧ I m' σ' H') ∧ R N := ⟨_, fun _ _ q => q.h, h⟩
/-! ### loops, shut -/
structure WhR (c : TT) (tb : TS) (D : Ends) (σ : L2.St) (H : Hp) : Prop where
  h : tWhile c tb D σ H
def oWhile (c : TT) (tb : TS) : TS := fun D σ H => WhR c tb D σ H
theorem ps_whileO {X : Cx} {pos : Pos} {c : Expr} {body : List Stmt} {tc : TT} {tb : TS} (hp : PassesOwn (model X.prog X.w) X.A X.env X.xe) (hc : PT X c tc) (hb : PSs X body tb) : PS X (.While c body [] pos) (oWhile tc tb) :=
  ⟨fun pins s σ H D I h => (ps_while hp hc hb).run pins s σ H D I h.h⟩
structure FoR (wi : TI) (g : TG) (tb : TS) (D : Ends) (σ : L2.St) (H : Hp) : Prop where
  h : tFor wi g tb D σ H
def oFor (wi : TI) (g : TG) (tb : TS) : TS := fun D σ H => FoR wi g tb D σ H
theorem ps_forO {X : Cx} {tg iter : Expr} {body : List Stmt} {wi : TI} {g : TG} {tb : TS} {pos : Pos} (hp : PassesOwn (model X.prog X.w) X.A X.env X.xe) (hc : X.calm = true) (hi : PI X tg iter wi) (hg : PG X tg g) (hb : PSs X body tb)
    (hs : ∀ x, foldedSetIterable iter X.env x = pure x := by intro _; rfl) : PS X (.For tg iter body [] pos) (oFor wi g tb) :=
  ⟨fun pins s σ H D I h => (ps_for hp hc hi hg hb hs).run pins s σ H D I h.h⟩
/-- a statement, then the rest, with a word between -/
structure CutR (t u : TS) (D : Ends) (σ : L2.St) (H : Hp) : Prop where
  h : ∃ Mid : L2.St → Hp → Prop, t { D with nx := fun σ' H' => Nx (Mid σ' H') } σ H ∧ ∀ σ' H', Mid σ' H' → u D σ' H'
def oCut (t u : TS) : TS := fun D σ H => CutR t u D σ H
theorem pss_cutO {X : Cx} {st : Stmt} {rest : List Stmt} {t u : TS} (h1 : PS X st t) (h2 : PSs X rest u) : PSs X (st :: rest) (oCut t u) := by
  refine ⟨fun pins s σ H D I h => ?_⟩
  obtain ⟨Mid, hm, hu⟩ := h.h
  exact (Evl.pss_cut h1 h2).run pins s σ H D I ⟨fun σ' H' => Nx (Mid σ' H'), hm, fun σ' H' m => hu σ' H' m.h⟩
/-! ### texts by their signs -/
def T (l : List Nat) : Str := ⟨l.toArray⟩
theorem T_len (l : List Nat) : (T l).length = l.length := rfl
theorem T_get {l : List Nat} {i c : Nat} (h : l[i]? = some c) : (T l).cps[(i : Int).toNat]? = some c := by
  show l.toArray[i]? = some c
  simpa using h
theorem T_mem {c : Nat} {l : List Nat} : c ∈ (T l).cps.toList ↔ c ∈ l := by simp [T]
theorem T_inj {a b : List Nat} (h : T a = T b) : a = b := by
  have := congrArg (fun s : Str => s.cps.toList) h
  simpa [T] using this
theorem T_app (a b : List Nat) : T a ++ T b = T (a ++ b) := by
  show Str.mk (a.toArray ++ b.toArray) = _
  simp [T]
/-! ### heaps -/
theorem tyL {K : PySem.W.Frag} {H : Hp} {p : Addr} {xs : List V} (h : H p = some (.lst xs)) : tyV K "list" (.ref p) H := Or.inl ⟨rfl, _, SqL.of h⟩
/-- a new object: from here on the heap is a letter -/
theorem al {H : Hp} {o : HO} {R : Addr → Hp → Prop} (h : ∀ p H', H p = none → Same H H' → H' p = some o → R p H') : ∀ p, H p = none → R p (upd H p o) :=
  fun p hp => h p _ hp (fun b u e => by rw [upd_ne (ne_of_none e hp)]; exact e) upd_same
/-- a list of the def's own is changed: all but lists stay; what stood before the def stays -/
structure Ch (H0 H H' : Hp) (l : Addr) (o : HO) : Prop where
  here : H' l = some o
  keep : ∀ b u, b ≠ l → H b = some u → H' b = some u
  old : Same H0 H → H0 l = none → Same H0 H'
theorem ch {H0 H : Hp} {l : Addr} {o : HO} {R : Hp → Prop} (h : ∀ H', Ch H0 H H' l o → R H') : R (upd H l o) :=
  h _ ⟨upd_same, fun b u hb e => by rw [upd_ne hb]; exact e, fun s n b u e => by rw [upd_ne (ne_of_none e n)]; exact s b u e⟩
theorem chU {H0 H : Hp} {l : Addr} {o : HO} : Ch H0 H (upd H l o) l o := ch (R := fun H' => Ch H0 H H' l o) fun _ h => h
/-- append, the heap behind it a letter -/
def rAppL : V → List V → Hp → VK → Prop := fun x vs H Q => ∃ l xs y, x = .ref l ∧ vs = [y] ∧ H l = some (.lst xs) ∧ xs.length < sizeLine ∧ ∀ H', H' = upd H l (.lst (xs ++ [y])) → Q .non H'
theorem mt_appL {X : Cx} : MtR X "list.append" rAppL := fun pins s σ H x vs v us Q I rx rv h => by
  obtain ⟨l, xs, y, e1, e2, e3, e4, q⟩ := h
  exact mt_append pins s σ H x vs v us Q I rx rv ⟨l, xs, y, e1, e2, e3, e4, q _ rfl⟩
/-! ### names of the top -/
def Cs (mg : Str → Option Value) (x : Str) (v : V) : Prop := ∃ u, mg x = some u ∧ RelV v u
theorem pe_cst {X : Cx} {x : Str} {v : V} {pos : Pos} (hg : Gl X x) (h : Cs X.mg x v) (hd : (x == ("__debug__" : Str)) = false := by decide) : PE X (.Name x pos) (tC v) := by
  obtain ⟨u, h1, h2⟩ := h
  exact pe_glob hg h1 h2 hd
/-- a def of the program that keeps its promise -/
def Fc (P : Program) (w : World) (K : PySem.W.Frag) (mg : Str → Option Value) (base : Heap) (CX : CXT) (k : Nat) (x : Str) (ps : List Str) (sp : Sp) : Prop :=
  ∃ f fd, mg x = some (.ref f) ∧ PySem.W.keepIn K (.ref f) = true ∧ Binds K fd ps [] ∧ FnOk P w K mg base CX k f fd ps sp
theorem pe_fc {X : Cx} {k : Nat} {x : Str} {ps : List Str} {sp : Sp} {e : Expr} {es : List Expr} {t : TA} {p pos : Pos} (F : Fc X.prog X.w X.K X.mg X.base CX0 k x ps sp) (hr : Room k X.A) (hg : Gl X x) (ha : PA X (e :: es) t)
    (hdb : (x == ("__debug__" : Str)) = false := by decide) (he : starEach (e :: es) X.env = (false, eval e X.env) :: starEach es X.env := by rfl) (hpl : (backTo pos (starEach es X.env)).any (·.1) = false := by rfl) :
    PE X (.Call (.Name x p) (e :: es) [] pos) (tCall sp [] E0 t) := by
  obtain ⟨f, fd, h1, h2, h3, h4⟩ := F
  exact pe_call h4 hr hg h1 h2 h3 .nil pass0 ha hdb he hpl
/-- a method of the program that keeps its promise -/
def Mc (P : Program) (w : World) (K : PySem.W.Frag) (mg : Str → Option Value) (base : Heap) (CX : CXT) (k : Nat) (C : Addr) (m : Str) (ps : List Str) (sp : Sp) : Prop :=
  ∃ f fd, Meth K C m f ∧ Binds K fd ps [] ∧ FnOk P w K mg base CX k f fd ps sp
theorem pe_mc {X : Cx} {CX : CXT} {k : Nat} {C : Addr} {m : Str} {ps : List Str} {sp : Sp} {E : XK} {o e : Expr} {es : List Expr} {ta : TE} {t : TA} {apos pos : Pos} {pl : Sem Bool} (ho : PE X o ta) (c : Cls X.K C) (M : Mc X.prog X.w X.K X.mg X.base CX k C m ps sp) (hr : Room k X.A) (hx : Passes CX X E) (ha : PA X (e :: es) t)
    (hst : starEach (e :: es) X.env = (false, eval e X.env) :: starEach es X.env := by rfl) (hpl : (backTo pos (starEach es X.env)).any (·.1) = false := by rfl)
    (ht : eval (.Call (.Attribute o m apos) (e :: es) [] pos) X.env = (do let ov ← eval o X.env; standAt apos.atName; let (f, first) ← holding [ov] (getMethod ov m pl); callWith pos f first (backTo pos (starEach (e :: es) X.env)) (backToKw pos (keywordEach [] X.env))) := by rfl) :
    PE X (.Call (.Attribute o m apos) (e :: es) [] pos) (tMeth C m sp [] E ta t) := by
  obtain ⟨f, fd, h1, h2, h3⟩ := M
  exact pe_meth ho c h1 h3 hr h2 .nil hx ha hst hpl ht
theorem pe_mc0 {X : Cx} {CX : CXT} {k : Nat} {C : Addr} {m : Str} {ps : List Str} {sp : Sp} {E : XK} {o : Expr} {ta : TE} {apos pos : Pos} {pl : Sem Bool} (ho : PE X o ta) (c : Cls X.K C) (M : Mc X.prog X.w X.K X.mg X.base CX k C m ps sp) (hr : Room k X.A) (hx : Passes CX X E)
    (ht : eval (.Call (.Attribute o m apos) [] [] pos) X.env = (do let ov ← eval o X.env; standAt apos.atName; let (f, first) ← holding [ov] (getMethod ov m pl); callWith pos f first (backTo pos (starEach [] X.env)) (backToKw pos (keywordEach [] X.env))) := by rfl) :
    PE X (.Call (.Attribute o m apos) [] [] pos) (tMeth C m sp [] E ta tNil) := by
  obtain ⟨f, fd, h1, h2, h3⟩ := M
  exact pe_meth0 ho c h1 h3 hr h2 .nil hx ht
/-- fields of a class that is known -/
def tFl (C : Addr) (ta : TE) (f : Str) : TE := fun σ H Q => ta σ H fun x H1 => ∃ a dx fs v, x = .ref a ∧ H1 a = some (.ins C dx fs) ∧ fs.lookup f = some v ∧ Q v H1
theorem pe_fl {X : Cx} {C : Addr} {e : Expr} {f : Str} {ta : TE} {pos : Pos} (c : Cls X.K C) (n : NoAttr X.K C f) (he : PE X e ta) (hb : attributeBase e f X.env (eval e X.env) = eval e X.env := by rfl) : PE X (.Attribute e f pos) (tFl C ta f) := by
  refine ⟨fun pins s σ H Q I h => attr_of hb (thn (he.run pins s σ H _ I h) fun u s1 ⟨x, H1, I1, rx, a, dx, fs, v, ex, ea, l, q⟩ => ?_)⟩
  subst ex
  obtain rfl : u = Value.ref a := rx
  exact getattr_ok I1 ea c n l fun u' s2 I2 ru => ⟨v, H1, I2, ru, q⟩
theorem pe_fldN {X : Cx} {K : PySem.W.Frag} {e : Expr} {f : Str} {ta : TE} {pos : Pos} (he : PE X e ta) (hK : X.K = K := by rfl) (hb : attributeBase e f X.env (eval e X.env) = eval e X.env := by rfl) : PE X (.Attribute e f pos) (tFld K ta f) := by
  subst hK
  exact pe_fld he hb
def sFl (C : Addr) (ta tv : TE) (f : Str) : TS := fun D σ H => tv σ H fun y H1 => ta σ H1 fun x H2 => ∃ a dx fs, x = .ref a ∧ H2 a = some (.ins C dx fs) ∧ fs.length < 1000 ∧ ∀ H3, H3 = upd H2 a (.ins C dx (putF f y fs)) → D.nx σ H3
theorem ps_fl {X : Cx} {C : Addr} {o value : Expr} {f : Str} {ta tv : TE} {pos pos' : Pos} (c : Cls X.K C) (n : NoAttr X.K C f) (ha : PE X o ta) (hv : PE X value tv) (hs : swapsWith value (some (.Attribute o f pos')) pos.line X.env = pure false := by rfl) :
    PS X (.Assign [.Attribute o f pos'] value pos) (sFl C ta tv f) := by
  refine ⟨fun pins s σ H D I h => plainObj_wpAny_Assign_Attribute (thn (hv.run pins s σ H _ I h) fun u s1 ⟨y, H1, I1, ry, q⟩ => thn (ha.run pins s1 σ H1 _ I1 q) fun ov s2 ⟨x, H2, I2, rx, a, dx, fs, ex, ea, l, q2⟩ => ?_) hs⟩
  subst ex
  obtain rfl : ov = Value.ref a := rx
  exact setattr_ok I2 ea c n l ry fun s3 I3 => ⟨σ, _, I3, q2 _ rfl⟩
def sFlAdd (C : Addr) (ta tv : TE) (f : Str) : TS := fun D σ H => ta σ H fun x H1 => ∃ a dx fs i, x = .ref a ∧ H1 a = some (.ins C dx fs) ∧ fs.lookup f = some (.int i) ∧ tv σ H1 fun y H2 => ∃ j dx' fs', y = .int j ∧ H2 a = some (.ins C dx' fs') ∧ fs'.length < 1000 ∧ ∀ H3, H3 = upd H2 a (.ins C dx' (putF f (.int (i + j)) fs')) → D.nx σ H3
theorem ps_flAdd {X : Cx} {C : Addr} {o value : Expr} {f : Str} {ta tv : TE} {pos tpos : Pos} (c : Cls X.K C) (n : NoAttr X.K C f) (ha : PE X o ta) (hv : PE X value tv) : PS X (.AugAssign (.Attribute o f tpos) .Add value pos) (sFlAdd C ta tv f) := by
  refine ⟨fun pins s σ H D I h => wpAny_AugAssign_AttributeAny (thn (ha.run pins s σ H _ I h) fun ov s1 ⟨x, H1, I1, rx, a, dx, fs, i, ex, ea, l, q⟩ => ?_)⟩
  subst ex
  obtain rfl : ov = Value.ref a := rx
  refine getattr_ok I1 ea c n l fun u s2 I2 ru => thn (hv.run pins s2 σ H1 _ I2 q) fun w3 s3 ⟨y, H2, I3, ry, j, dx', fs', ey, ea', l', q4⟩ => ?_
  subst ey
  refine thn (in_add pins s3 σ H2 (.int i) (.int j) u w3 (fun z H3 => z = .int (i + j) ∧ H3 = H2) I3 ru ry ⟨i, j, rfl, rfl, rfl, rfl⟩) fun w4 s4 ⟨z, H3, I4, rz, ez, eH⟩ => ?_
  subst ez eH
  exact setattr_ok I4 ea' c n l' rz fun s5 I5 => ⟨σ, _, I5, q4 _ rfl⟩
/-- a class whose __init__ keeps its promise -/
def Ic (P : Program) (w : World) (K : PySem.W.Frag) (mg : Str → Option Value) (base : Heap) (k : Nat) (C : Addr) (ps : List Str) (sp : Sp) : Prop :=
  ∃ f fd, Mk K C f ∧ Binds K fd ps [] ∧ FnOk P w K mg base CX0 k f fd ps sp
theorem pe_mkc {X : Cx} {k : Nat} {C : Addr} {x : Str} {ps : List Str} {sp : Sp} {e : Expr} {es : List Expr} {t : TA} {p pos : Pos} (M : Ic X.prog X.w X.K X.mg X.base k C ps sp) (hr : Room (k + 1) X.A) (hg : Gl X x) (hm : X.mg x = some (.ref C)) (ha : PA X (e :: es) t)
    (hdb : (x == ("__debug__" : Str)) = false := by decide) (he : starEach (e :: es) X.env = (false, eval e X.env) :: starEach es X.env := by rfl) (hpl : (backTo pos (starEach es X.env)).any (·.1) = false := by rfl) :
    PE X (.Call (.Name x p) (e :: es) [] pos) (tMake C sp [] E0 t) := by
  obtain ⟨f, fd, h1, h2, h3⟩ := M
  exact pe_make h1 h3 hr hg hm h2 .nil pass0 ha hdb he hpl
/-- an own error class whose __init__ keeps its promise -/
def Xc (P : Program) (w : World) (K : PySem.W.Frag) (mg : Str → Option Value) (base : Heap) (k : Nat) (C : Addr) (ps : List Str) (sp : Sp) : Prop :=
  ∃ f fd, PySem.W.findIn K (.ref C) "__init__" = some (some (.ref f)) ∧ PySem.W.typeIn K (.ref f) = some (.type "function") ∧ Binds K fd ps [] ∧ FnOk P w K mg base CX0 k f fd ps sp
theorem pmk_x {X : Cx} {x : Str} {C : Addr} {k : Nat} {ps : List Str} {sp : Sp} {e : Expr} {es : List Expr} {ta : TA} {p pos : Pos} (T : EcC X.K C) (Z : Xc X.prog X.w X.K X.mg X.base k C ps sp) (hr : Room (k + 1) X.A) (hm : X.mg x = some (.ref C)) (ha : PA X (e :: es) ta)
    (hg : Gl X x := by rfl) (hdb : (x == ("__debug__" : Str)) = false := by decide) (he : starEach (e :: es) X.env = (false, eval e X.env) :: starEach es X.env := by rfl) (hpl : (backTo pos (starEach es X.env)).any (·.1) = false := by rfl) :
    PMk X (.Call (.Name x p) (e :: es) [] pos) (tMkO C sp [] ta) := by
  obtain ⟨f, fd, h1, h2, h3, h4⟩ := Z
  exact pmk_ec T h1 h2 h4 hr h3 pass0 hm ha hg hdb he hpl
abbrev x_LETTERS : List Nat := [97, 98, 99, 100, 101, 102, 103, 104, 105, 106, 107, 108, 109, 110, 111, 112, 113, 114, 115, 116, 117, 118, 119, 120, 121, 122]
abbrev x_DIGITS : List Nat := [48, 49, 50, 51, 52, 53, 54, 55, 56, 57]
abbrev x_WORD_SIGNS : List Nat := [97, 98, 99, 100, 101, 102, 103, 104, 105, 106, 107, 108, 109, 110, 111, 112, 113, 114, 115, 116, 117, 118, 119, 120, 121, 122, 48, 49, 50, 51, 52, 53, 54, 55, 56, 57, 95]
abbrev x_SIGNS : List Nat := [45, 58, 59, 123, 125]
abbrev x_BLANKS : List Nat := [32, 10]
abbrev x_KNOWN_SIGNS : List Nat := [10, 32, 35, 45, 58, 59, 123, 125, 97, 98, 99, 100, 101, 102, 103, 104, 105, 106, 107, 108, 109, 110, 111, 112, 113, 114, 115, 116, 117, 118, 119, 120, 121, 122, 48, 49, 50, 51, 52, 53, 54, 55, 56, 57, 95]
abbrev x_UNKNOWN_SIGN : List Nat := [63]
abbrev x_WORD : List Nat := [119, 111, 114, 100]
abbrev x_NUMBER : List Nat := [110, 117, 109, 98, 101, 114]
abbrev x_SIGN : List Nat := [115, 105, 103, 110]
abbrev x_END : List Nat := [101, 110, 100]
abbrev x_STRAY : List Nat := [115, 116, 114, 97, 121]
abbrev x_MALFORMED : List Nat := [109, 97, 108, 102, 111, 114, 109, 101, 100]
structure Ads where
  Table : Addr
  Column : Addr
  FirstFault : Addr
  SchemaReader : Addr
  Held : Addr
  SINGLE_NUMBERS : Addr
  HAS_LIST : Addr
  NO_NAMES : Addr
  SESSIONS : Addr
  MODES : Addr
  CHOICES : Addr
structure Tp (K : PySem.W.Frag) (mg : Str → Option Value) (ad : Ads) : Prop where
  k_LOAD : Cs mg "LOAD" (.int 0)
  k_WRITTEN : Cs mg "WRITTEN" (.int 1)
  k_FILL : Cs mg "FILL" (.int 2)
  k_SET : Cs mg "SET" (.int 3)
  k_CHANGED : Cs mg "CHANGED" (.int 4)
  k_CLASHES : Cs mg "CLASHES" (.int 5)
  k_MERGED : Cs mg "MERGED" (.int 6)
  k_COMMIT : Cs mg "COMMIT" (.int 7)
  k_REFRESH : Cs mg "REFRESH" (.int 8)
  k_TABLES : Cs mg "TABLES" (.int 9)
  k_ORDERS : Cs mg "ORDERS" (.int 10)
  k_SINGLE_NUMBERS : Cs mg "SINGLE_NUMBERS" (.ref ad.SINGLE_NUMBERS)
  t_SINGLE_NUMBERS : ∀ H, SqT K H ad.SINGLE_NUMBERS [V.int 0, V.int 0, V.int 0, V.int 1, V.int 1, V.int 2, V.int 2, V.int 2, V.int 2, V.int 1, V.int 1, V.int 0]
  k_HAS_LIST : Cs mg "HAS_LIST" (.ref ad.HAS_LIST)
  t_HAS_LIST : ∀ H, SqT K H ad.HAS_LIST [V.bl true, V.bl false, V.bl true, V.bl true, V.bl false, V.bl false, V.bl true, V.bl true, V.bl true, V.bl false, V.bl false, V.bl false]
  k_ADDED : Cs mg "ADDED" (.int 0)
  k_ALTERED : Cs mg "ALTERED" (.int 1)
  k_REMOVED : Cs mg "REMOVED" (.int 2)
  k_BOTH_ALTERED : Cs mg "BOTH_ALTERED" (.int 0)
  k_STORE_REMOVED : Cs mg "STORE_REMOVED" (.int 1)
  k_SESSION_REMOVED : Cs mg "SESSION_REMOVED" (.int 2)
  k_BOTH_ADDED : Cs mg "BOTH_ADDED" (.int 3)
  k_WHOLE_ROW : Cs mg "WHOLE_ROW" (.int 4)
  k_OF_THE_SESSION : Cs mg "OF_THE_SESSION" (.int 1)
  k_FARTHEST : Cs mg "FARTHEST" (.int 1000000)
  k_LETTERS : Cs mg "LETTERS" (.str (T x_LETTERS))
  k_DIGITS : Cs mg "DIGITS" (.str (T x_DIGITS))
  k_WORD_SIGNS : Cs mg "WORD_SIGNS" (.str (T x_WORD_SIGNS))
  k_SIGNS : Cs mg "SIGNS" (.str (T x_SIGNS))
  k_BLANKS : Cs mg "BLANKS" (.str (T x_BLANKS))
  k_KNOWN_SIGNS : Cs mg "KNOWN_SIGNS" (.str (T x_KNOWN_SIGNS))
  k_UNKNOWN_SIGN : Cs mg "UNKNOWN_SIGN" (.str (T x_UNKNOWN_SIGN))
  k_LONGEST_WORD : Cs mg "LONGEST_WORD" (.int 12)
  k_MOST_DIGITS : Cs mg "MOST_DIGITS" (.int 7)
  k_GREATEST_NUMBER : Cs mg "GREATEST_NUMBER" (.int 1000000)
  k_WORD : Cs mg "WORD" (.str (T x_WORD))
  k_NUMBER : Cs mg "NUMBER" (.str (T x_NUMBER))
  k_SIGN : Cs mg "SIGN" (.str (T x_SIGN))
  k_END : Cs mg "END" (.str (T x_END))
  k_STRAY : Cs mg "STRAY" (.str (T x_STRAY))
  k_MALFORMED : Cs mg "MALFORMED" (.str (T x_MALFORMED))
  k_MOST_TABLES : Cs mg "MOST_TABLES" (.int 4)
  k_MOST_COLUMNS : Cs mg "MOST_COLUMNS" (.int 4)
  k_NO_NAMES : Cs mg "NO_NAMES" (.ref ad.NO_NAMES)
  t_NO_NAMES : ∀ H, SqT K H ad.NO_NAMES [V.str (T [116, 97, 98, 108, 101]), V.str (T [110, 117, 109, 98, 101, 114]), V.str (T [102, 114, 111, 109]), V.str (T [116, 111]), V.str (T [114, 101, 102]), V.str (T [110, 111, 110, 101]), V.str (T [99, 97, 115, 99, 97, 100, 101]), V.str (T [99, 108, 101, 97, 114]), V.str (T [117, 110, 105, 113, 117, 101])]
  k_NO_TOKEN : Cs mg "NO_TOKEN" (.int 1)
  k_NOT_AS_TOLD : Cs mg "NOT_AS_TOLD" (.int 2)
  k_CANNOT_STAND : Cs mg "CANNOT_STAND" (.int 3)
  k_ENDS_EARLY : Cs mg "ENDS_EARLY" (.int 4)
  k_TOO_MANY : Cs mg "TOO_MANY" (.int 5)
  k_NAMED_TWICE : Cs mg "NAMED_TWICE" (.int 6)
  k_NO_SUCH_TABLE : Cs mg "NO_SUCH_TABLE" (.int 7)
  k_AT_ODDS : Cs mg "AT_ODDS" (.int 8)
  k_MOST_ROWS : Cs mg "MOST_ROWS" (.int 8)
  k_GREATEST_ID : Cs mg "GREATEST_ID" (.int 99)
  k_OUT_OF_RANGE : Cs mg "OUT_OF_RANGE" (.int 2)
  k_NO_SUCH_ROW : Cs mg "NO_SUCH_ROW" (.int 3)
  k_NOT_UNIQUE : Cs mg "NOT_UNIQUE" (.int 4)
  k_TOO_MANY_ROWS : Cs mg "TOO_MANY_ROWS" (.int 5)
  k_NOTHING_BROKEN : Cs mg "NOTHING_BROKEN" (.int 0)
  k_LONGEST_TEXT : Cs mg "LONGEST_TEXT" (.int 4096)
  k_GREATEST_BYTE : Cs mg "GREATEST_BYTE" (.int 255)
  k_NO_BYTE : Cs mg "NO_BYTE" (.int (-1))
  k_TOO_LONG : Cs mg "TOO_LONG" (.int (-2))
  k_NO_SESSION : Cs mg "NO_SESSION" (.int (-3))
  k_NOT_ROWS : Cs mg "NOT_ROWS" (.int (-4))
  k_NO_MODE : Cs mg "NO_MODE" (.int (-8))
  k_NO_CHOICE : Cs mg "NO_CHOICE" (.int (-12))
  k_OTHER_COUNT : Cs mg "OTHER_COUNT" (.int 1)
  k_NOT_GOOD : Cs mg "NOT_GOOD" (.int 2)
  k_SAME_STORE : Cs mg "SAME_STORE" (.int 1)
  k_UNLIKE_STORES : Cs mg "UNLIKE_STORES" (.int 0)
  k_NOT_BOTH_ORDERS : Cs mg "NOT_BOTH_ORDERS" (.int 2)
  k_SESSIONS : Cs mg "SESSIONS" (.ref ad.SESSIONS)
  t_SESSIONS : ∀ H, SqT K H ad.SESSIONS [V.int 0, V.int 1]
  k_STORE : Cs mg "STORE" (.int 2)
  k_MODES : Cs mg "MODES" (.ref ad.MODES)
  t_MODES : ∀ H, SqT K H ad.MODES [V.int 0, V.int 1]
  k_BY_FIELDS : Cs mg "BY_FIELDS" (.int 1)
  k_CHOICES : Cs mg "CHOICES" (.ref ad.CHOICES)
  t_CHOICES : ∀ H, SqT K H ad.CHOICES [V.int 0, V.int 1]
  b_len : mg "len" = none
  b_range : mg "range" = none
  b_enumerate : mg "enumerate" = none
  b_sorted : mg "sorted" = none
  b_set : mg "set" = none
  b_sum : mg "sum" = none
  b_any : mg "any" = none
  b_all : mg "all" = none
  b_abs : mg "abs" = none
  b_ord : mg "ord" = none
  b_int : mg "int" = none
  b_str : mg "str" = none
  b_tuple : mg "tuple" = none
  b_Exception : mg "Exception" = none
  b_zip : mg "zip" = none
  b_list : mg "list" = none
  g_Table : mg "Table" = some (.ref ad.Table)
  cl_Table : Cls K ad.Table
  n_Table_name : NoAttr K ad.Table "name"
  n_Table_columns : NoAttr K ad.Table "columns"
  g_Column : mg "Column" = some (.ref ad.Column)
  cl_Column : Cls K ad.Column
  n_Column_name : NoAttr K ad.Column "name"
  n_Column_low : NoAttr K ad.Column "low"
  n_Column_high : NoAttr K ad.Column "high"
  n_Column_target : NoAttr K ad.Column "target"
  n_Column_allows_none : NoAttr K ad.Column "allows_none"
  n_Column_removal : NoAttr K ad.Column "removal"
  n_Column_unique : NoAttr K ad.Column "unique"
  g_FirstFault : mg "FirstFault" = some (.ref ad.FirstFault)
  e_FirstFault : EcC K ad.FirstFault
  n_FirstFault_kind : PySem.W.findIn K (.ref ad.FirstFault) "kind" = some none
  n_FirstFault_place : PySem.W.findIn K (.ref ad.FirstFault) "place" = some none
  g_SchemaReader : mg "SchemaReader" = some (.ref ad.SchemaReader)
  cl_SchemaReader : Cls K ad.SchemaReader
  n_SchemaReader_tokens : NoAttr K ad.SchemaReader "tokens"
  n_SchemaReader_position : NoAttr K ad.SchemaReader "position"
  n_SchemaReader_schema : NoAttr K ad.SchemaReader "schema"
  n_SchemaReader_references : NoAttr K ad.SchemaReader "references"
  g_Held : mg "Held" = some (.ref ad.Held)
  cl_Held : Cls K ad.Held
  n_Held_schema : NoAttr K ad.Held "schema"
  n_Held_commits : NoAttr K ad.Held "commits"
  n_Held_store : NoAttr K ad.Held "store"
  n_Held_began : NoAttr K ad.Held "began"
  n_Held_own : NoAttr K ad.Held "own"

end Tw
section
local macro_rules | `(tactic| walk_at "sm") => `(tactic| first | exact L2.Same.refl _ | assumption | (refine L2.Same.trans ?_ (by assumption); walk_at "sm"))
local macro_rules | `(tactic| walk_at "side") => `(tactic| first | omega | assumption | exact rfl | exact L2.upd_same | exact L2.SqL.of (by assumption) | exact L2.SqT.of (by assumption) | exact L2.atI_nat (by assumption) | exact Nat.le_of_ble_eq_true rfl | exact Tw.tyL (by assumption) | exact Or.inr (by assumption) | exact Or.inl (L2.SqL.of (by assumption)) | (refine Nat.le_trans ?_ (by decide : 100000 ≤ PySem.sizeLine); omega) | (refine Nat.lt_of_lt_of_le ?_ (by decide : 100000 ≤ PySem.sizeLine); omega))
local macro_rules | `(tactic| walk_at "rd1") => `(tactic| first | (refine And.intro (by walk_at "side") ?_) | (refine Exists.intro ?_ ?_; rotate_left))
local macro_rules | `(tactic| walk_at "rd") => `(tactic| repeat walk_at "rd1")
local macro_rules | `(tactic| walk_at "rds") => `(tactic| repeat (first | walk_at "rd1" | (intro h3 e3; subst e3)))
namespace Tw
open PySem PySem.Spec PyProof.Rows L2

/-! ### mirror of tokens.py -/
def run (p : Nat → Bool) : List Nat → Nat
  | [] => 0
  | c :: r => if p c then run p r + 1 else 0
theorem run_le (p : Nat → Bool) : ∀ l, run p l ≤ l.length
  | [] => Nat.le_refl 0
  | c :: r => by
    unfold run
    split
    · exact Nat.succ_le_succ (run_le p r)
    · exact Nat.zero_le _
theorem run_drop {p : Nat → Bool} {l : List Nat} {j c : Nat} (h : l[j]? = some c) : run p (l.drop j) = if p c then run p (l.drop (j + 1)) + 1 else 0 := by
  have hj : j < l.length := by
    rw [List.getElem?_eq_some_iff] at h; exact h.1
  rw [List.drop_eq_getElem_cons hj]
  rw [List.getElem?_eq_some_iff] at h
  obtain ⟨_, rfl⟩ := h
  rfl
theorem run_nil (p : Nat → Bool) {l : List Nat} {j : Nat} (h : ¬ j < l.length) : run p (l.drop j) = 0 := by
  rw [List.drop_of_length_le (by omega)]; rfl
abbrev letS : List Nat := x_LETTERS
abbrev digS : List Nat := x_DIGITS
abbrev wordS : List Nat := x_WORD_SIGNS
def inS (s : List Nat) (c : Nat) : Bool := decide (c ∈ s)
variable {P : Program} {w : World} {K : PySem.W.Frag} {mg : Str → Option Value} {base : Heap} {ad : Ads}
theorem sgn {c d : Nat} (h : V.str ⟨#[c]⟩ = V.str ⟨#[d]⟩) : c = d := by
  injection h with h
  injection h with h
  simpa using h
/-! ### past_run -/
abbrev s_past_run : Stmt := top 67
theorem sc_past_run : FnScope ["text", "place", "signs"] ["text", "place", "signs"] (defScope s_past_run) := ⟨rfl, rfl, rfl, by decide +kernel, rfl, by decide +kernel, by decide +kernel⟩
def sp_past_run : Sp := fun vs H Q _ => ∃ (l sg : List Nat) (i : Nat), vs = [.str (T l), .int i, .str (T sg)] ∧ l.length ≤ 5000 ∧ i ≤ l.length ∧ Q (.int ((i + run (inS sg) (l.drop i) : Nat) : Int)) H
theorem ok_past_run {f : Addr} {fd : FuncData} (T : Tp K mg ad) (F : Fun K "past_run" "past_run" s_past_run f fd) : FnOk P w K mg base CX0 1 f fd ["text", "place", "signs"] sp_past_run := by
  refine F.ok sc_past_run (fun vs H Q E h => ?_) (fun cdv A outer s H vs Q E hr h => ⟨_, (pss_cons (ps_whileO PassesOwn.never (PW.pt (pw_and (pt_cmpR op_lt (pv 1) (pe_callB call_len_str (by rfl) T.b_len (by decide +kernel) (pa_cons (pv 0) pa_nil)) (nomark _)) (pw_and1 (pt_cmpR op_in_sign (pe_item_str (pv 0) (pv 1) (fun _ _ => rfl)) (pv 2) (by rfl))))) (pss_one (ps_aug (i := 1) sc_past_run.nd rfl (.inl rfl) pe_int ip_add))) (pss_one (ps_ret (pv 1)))), ?_⟩)
  · obtain ⟨z, sg, i, rfl, _⟩ := h
    rfl
  obtain ⟨l, sg, i, rfl, hz, hi, k⟩ := h
  refine ⟨⟨fun m σ H1 => ∃ j : Nat, σ = [some (.str (Tw.T l)), some (.int j), some (.str (Tw.T sg))] ∧ j ≤ l.length ∧ m = l.length - j ∧ H = H1 ∧ i + run (inS sg) (l.drop i) = j + run (inS sg) (l.drop j), ⟨l.length - i, i, rfl, hi, rfl, rfl, rfl⟩, ?_⟩⟩
  rintro m σ H1 ⟨j, rfl, hj, rfl, rfl, e⟩
  have hz1 := T_len l
  have k' : i + run (inS sg) (l.drop i) = j → Q (.int j) H := fun e => e ▸ k
  walk_at "rd"
  refine ifd (fun h1 => ?_) (fun h1 => ?_)
  · obtain ⟨c, hc⟩ : ∃ c, l[j]? = some c := ⟨l[j]'(by omega), by simp [show j < l.length by omega]⟩
    have hc' := T_get hc
    walk_at "rd"
    refine ifd (fun h2 => ?_) (fun h2 => ?_)
    · refine wnx ?_
      walk_at "rd"
      refine ⟨⟨l.length - (j + 1), by omega, j + 1, rfl, by omega, rfl, rfl, ?_⟩⟩
      rw [e, run_drop hc, if_pos (by simpa [inS, Tw.T] using h2)]; omega
    · walk_at "rd"
      refine k' ?_
      rw [e, run_drop hc, if_neg (by simpa [inS, Tw.T] using h2)]; omega
  · walk_at "rd"
    refine k' ?_
    rw [e, run_nil _ (by omega)]; rfl
/-! ### past_remark -/
theorem find_go (l : List Nat) (c hi : Nat) (hh : hi = l.length) : ∀ (n j free : Nat), free ≤ j → j + n = l.length + 1 →
    (match (forIn (List.range' j n) ((#[] : Array Nat), free) (StrLaws.occBody (T l) ⟨#[c]⟩ hi 1)).run.fst.toList with | k :: _ => (k : Int) | [] => -1)
      = if j + run (fun x => !decide (x = c)) (l.drop j) < l.length then ((j + run (fun x => !decide (x = c)) (l.drop j) : Nat) : Int) else -1
  | 0, j, free, hf, hn => by
    rw [if_neg (by omega)]; rfl
  | n + 1, j, free, hf, hn => by
    subst hh
    rw [List.range'_succ, List.forIn_cons]
    unfold StrLaws.occBody
    by_cases hc : l[j]? = some c
    · have h1 := (StrLaws.subAt_one (T l) c j).mpr (by simpa [T] using hc)
      have hj : j < l.length := by rw [List.getElem?_eq_some_iff] at hc; exact hc.1
      have e0 : run (fun x => !decide (x = c)) (l.drop j) = 0 := by rw [run_drop hc, if_neg (by simp)]
      rw [if_pos ⟨⟨⟨by simp, hf⟩, h1.1⟩, h1.2⟩, e0, if_pos (by omega)]
      have g := occ_first (T l) ⟨#[c]⟩ l.length (List.range' (j + 1) n) (#[].push j, j + 1) (by simp)
      show (match (forIn (List.range' (j + 1) n) ((#[] : Array Nat).push j, j + 1) (StrLaws.occBody (T l) ⟨#[c]⟩ l.length 1)).run.fst.toList with | k :: _ => (k : Int) | [] => -1) = _
      rw [g]; rfl
    · have h1 : ¬ (j + (⟨#[c]⟩ : Str).length ≤ l.length ∧ Builtin.Str.subAt (T l) ⟨#[c]⟩ j = true) := fun h => hc (by simpa [T] using (StrLaws.subAt_one (T l) c j).mp h)
      rw [if_neg (fun h => h1 ⟨h.1.2, h.2⟩)]
      have ih := find_go l c l.length rfl n (j + 1) free (by omega) (by omega)
      by_cases hj : j < l.length
      · have hx : l[j]? = some l[j] := by simp [hj]
        have hne : l[j] ≠ c := fun e => hc (by rw [hx, e])
        have e0 : run (fun x => !decide (x = c)) (l.drop j) = run (fun x => !decide (x = c)) (l.drop (j + 1)) + 1 := by rw [run_drop hx, if_pos (by simpa using hne)]
        have e : j + run (fun x => !decide (x = c)) (l.drop j) = j + 1 + run (fun x => !decide (x = c)) (l.drop (j + 1)) := by omega
        rw [e]
        exact ih
      · have : n = 0 := by omega
        subst this
        rw [run_nil _ hj, if_neg (by omega)]; rfl
where
  occ_first (s sub : Str) (hi : Nat) : ∀ (l : List Nat) (st : Array Nat × Nat), st.fst.size = 1 → (forIn l st (StrLaws.occBody s sub hi 1)).run.fst = st.fst
    | [], st, h => rfl
    | a :: l, st, h => by
      rw [List.forIn_cons]
      unfold StrLaws.occBody
      rw [if_neg (by rintro ⟨⟨⟨h1, _⟩, _⟩, _⟩; omega)]
      exact occ_first s sub hi l (st.fst, st.snd) h
theorem find_nl (l : List Nat) (c i : Nat) (hi : i ≤ l.length) : Txt.find3 (T l) ⟨#[c]⟩ (i : Int) = if i + run (fun x => !decide (x = c)) (l.drop i) < l.length then ((i + run (fun x => !decide (x = c)) (l.drop i) : Nat) : Int) else -1 := by
  have e : fromIndex (T l).length (i : Int) = i := by unfold fromIndex; rw [if_neg (by omega)]; omega
  unfold Txt.find3
  rw [e, StrLaws.occ_eq]
  exact find_go l c _ rfl _ i i (Nat.le_refl i) (by rw [T_len]; omega)
def notNl (x : Nat) : Bool := !decide (x = 10)
abbrev s_past_remark : Stmt := top 65
theorem sc_past_remark : FnScope ["text", "place", "line_end"] ["text", "place"] (defScope s_past_remark) := ⟨rfl, rfl, rfl, by decide +kernel, rfl, by decide +kernel, by decide +kernel⟩
def sp_past_remark : Sp := fun vs H Q _ => ∃ (l : List Nat) (i : Nat), vs = [.str (T l), .int i] ∧ l.length ≤ 5000 ∧ i ≤ l.length ∧ Q (.int ((i + run notNl (l.drop i) : Nat) : Int)) H
theorem ok_past_remark {f : Addr} {fd : FuncData} (T : Tp K mg ad) (F : Fun K "past_remark" "past_remark" s_past_remark f fd) : FnOk P w K mg base CX0 1 f fd ["text", "place"] sp_past_remark := by
  refine F.ok sc_past_remark (fun vs H Q E h => ?_) (fun cdv A outer s H vs Q E hr h => ⟨_, (pss_cons (ps_set (i := 2) sc_past_remark.nd rfl (.inl rfl) (pe_bm PySem.F.plainAttrs_str PySem.F.slot_str_find PySem.F.type_str_find mt_find3 (pv 0) (pa_cons pe_str (pa_cons (pv 1) pa_nil)))) (pss_one (ps_ret (pe_ifExp (pt_cmpR op_lt (pv 2) pe_int (nomark _)) (pe_callB call_len_str (by rfl) T.b_len (by decide +kernel) (pa_cons (pv 0) pa_nil)) (pv 2))))), ?_⟩)
  · obtain ⟨z, i, rfl, _⟩ := h
    rfl
  obtain ⟨l, i, rfl, hz, hi, k⟩ := h
  have hz1 := T_len l
  have e : Txt.find3 (Tw.T l) ("\n" : Str) (i : Int) = if i + run notNl (l.drop i) < l.length then ((i + run notNl (l.drop i) : Nat) : Int) else -1 := find_nl l 10 i hi
  have ty : tyV K "str" (V.str (Tw.T l)) H := rfl
  walk_at "rd"
  rw [e]
  by_cases c : i + run notNl (l.drop i) < l.length
  · rw [if_pos c]
    walk_at "rd"
    exact k
  · rw [if_neg c]
    walk_at "rd"
    have h2 := run_le notNl (l.drop i)
    rw [List.length_drop] at h2
    have e3 : i + run notNl (l.drop i) = l.length := by omega
    rw [e3] at k
    exact k
/-! ### past_blanks -/
def skp : Bool → List Nat → Nat
  | _, [] => 0
  | true, c :: r => if c = 10 then skp false r + 1 else skp true r + 1
  | false, c :: r => if c = 35 then skp true r + 1 else if inS [32, 10] c then skp false r + 1 else 0
theorem skp_true : ∀ l, skp true l = run notNl l + skp false (l.drop (run notNl l))
  | [] => rfl
  | c :: r => by
    unfold run
    by_cases h : c = 10
    · subst h
      show skp false r + 1 = 0 + (skp false r + 1)
      omega
    · have h1 : notNl c = true := by simp [notNl, h]
      rw [if_pos h1, List.drop_succ_cons]
      show (if c = 10 then _ else _) = _
      rw [if_neg h, skp_true r]; omega
theorem skp_le : ∀ b l, skp b l ≤ l.length
  | _, [] => by unfold skp; exact Nat.le_refl 0
  | true, c :: r => by
    have h1 := skp_le true r; have h2 := skp_le false r
    unfold skp; rw [List.length_cons]; split <;> omega
  | false, c :: r => by
    have h1 := skp_le true r; have h2 := skp_le false r
    unfold skp; rw [List.length_cons]; split
    · omega
    · split <;> omega
theorem skp_hash {l : List Nat} {j : Nat} (h : l[j]? = some 35) : skp false (l.drop j) = run notNl (l.drop j) + skp false (l.drop (j + run notNl (l.drop j))) := by
  have hj : j < l.length := by rw [List.getElem?_eq_some_iff] at h; exact h.1
  have e : l.drop j = 35 :: l.drop (j + 1) := by
    rw [List.drop_eq_getElem_cons hj]; rw [List.getElem?_eq_some_iff] at h; obtain ⟨_, h⟩ := h; rw [h]
  have e2 : skp false (l.drop j) = skp true (l.drop j) := by rw [e]; rfl
  rw [e2, skp_true, List.drop_drop]
theorem skp_step {l : List Nat} {j c : Nat} (h : l[j]? = some c) (hc : c ≠ 35) : skp false (l.drop j) = if inS [32, 10] c then skp false (l.drop (j + 1)) + 1 else 0 := by
  have hj : j < l.length := by rw [List.getElem?_eq_some_iff] at h; exact h.1
  have e : l.drop j = c :: l.drop (j + 1) := by
    rw [List.drop_eq_getElem_cons hj]; rw [List.getElem?_eq_some_iff] at h; obtain ⟨_, h⟩ := h; rw [h]
  rw [e]
  show (if c = 35 then _ else _) = _
  rw [if_neg hc]
abbrev s_past_blanks : Stmt := top 64
theorem sc_past_blanks : FnScope ["text", "place"] ["text", "place"] (defScope s_past_blanks) := ⟨rfl, rfl, rfl, by decide +kernel, rfl, by decide +kernel, by decide +kernel⟩
def sp_past_blanks : Sp := fun vs H Q _ => ∃ (l : List Nat) (i : Nat), vs = [.str (T l), .int i] ∧ l.length ≤ 5000 ∧ i ≤ l.length ∧ Q (.int ((i + skp false (l.drop i) : Nat) : Int)) H
theorem ok_past_blanks {f : Addr} {fd : FuncData} (T : Tp K mg ad) (c_past_remark : Fc P w K mg base CX0 1 "past_remark" ["text", "place"] sp_past_remark) (F : Fun K "past_blanks" "past_blanks" s_past_blanks f fd) : FnOk P w K mg base CX0 2 f fd ["text", "place"] sp_past_blanks := by
  refine F.ok sc_past_blanks (fun vs H Q E h => ?_) (fun cdv A outer s H vs Q E hr h => ⟨_, (pss_cons (ps_whileO PassesOwn.never (pt_cmpR op_lt (pv 1) (pe_callB call_len_str (by rfl) T.b_len (by decide +kernel) (pa_cons (pv 0) pa_nil)) (nomark _)) (pss_one (ps_if (pt_cmpR op_eq (pe_item_str (pv 0) (pv 1) (fun _ _ => rfl)) pe_str (nomark _)) (pss_one (ps_set (i := 1) sc_past_blanks.nd rfl (.inl rfl) (pe_fc c_past_remark (hr.mono (by decide)) (by rfl) (pa_cons (pv 0) (pa_cons (pv 1) pa_nil))))) (pss_one (ps_if (pt_cmpR op_in_sign (pe_item_str (pv 0) (pv 1) (fun _ _ => rfl)) (pe_cst (by rfl) T.k_BLANKS) (by rfl)) (pss_one (ps_aug (i := 1) sc_past_blanks.nd rfl (.inl rfl) pe_int ip_add)) (pss_one ps_break)))))) (pss_one (ps_ret (pv 1)))), ?_⟩)
  · obtain ⟨z, i, rfl, _⟩ := h
    rfl
  obtain ⟨l, i, rfl, hz, hi, k⟩ := h
  have hz1 := T_len l
  refine ⟨⟨fun m σ H1 => ∃ j : Nat, σ = [some (.str (Tw.T l)), some (.int j)] ∧ j ≤ l.length ∧ m = l.length - j ∧ H = H1 ∧ i + skp false (l.drop i) = j + skp false (l.drop j), ⟨l.length - i, i, rfl, hi, rfl, rfl, rfl⟩, ?_⟩⟩
  rintro m σ H1 ⟨j, rfl, hj, rfl, rfl, e⟩
  have k' : i + skp false (l.drop i) = j → Q (.int j) H := fun e => e ▸ k
  walk_at "rd"
  refine ifd (fun h1 => ?_) (fun h1 => ?_)
  · obtain ⟨c, hc⟩ : ∃ c, l[j]? = some c := ⟨l[j]'(by omega), by simp [show j < l.length by omega]⟩
    have hc' := T_get hc
    refine wnx ?_
    walk_at "rd"
    refine ifd (fun h2 => ?_) (fun h2 => ?_)
    · have h3 : c = 35 := sgn h2
      subst h3
      walk_at "rd"
      have h4 := run_le notNl (l.drop j)
      rw [List.length_drop] at h4
      have h5 : 0 < run notNl (l.drop j) := by rw [run_drop hc, if_pos (by decide)]; omega
      refine ⟨⟨l.length - (j + run notNl (l.drop j)), by omega, j + run notNl (l.drop j), rfl, by omega, rfl, rfl, ?_⟩⟩
      rw [e, skp_hash hc]; omega
    · have h3 : c ≠ 35 := fun e => h2 (by rw [e]; rfl)
      walk_at "rd"
      refine ifd (fun h4 => ?_) (fun h4 => ?_)
      · walk_at "rd"
        refine ⟨⟨l.length - (j + 1), by omega, j + 1, rfl, by omega, rfl, rfl, ?_⟩⟩
        rw [e, skp_step hc h3, if_pos (show inS [32, 10] c = true from decide_eq_true (T_mem.mp h4))]; omega
      · walk_at "rd"
        refine k' ?_
        rw [e, skp_step hc h3, if_neg (by rw [inS, decide_eq_true_eq]; exact fun z => h4 (T_mem.mpr z))]; rfl
  · walk_at "rd"
    refine k' ?_
    rw [e, List.drop_of_length_le (by omega)]; unfold skp; rfl
/-! ### token_end -/
def tokLen (l : List Nat) : Nat := match l with
  | [] => 1
  | c :: _ => if inS letS c then run (inS wordS) l else if inS digS c then run (inS digS) l else 1
theorem drop_at {l : List Nat} {j c : Nat} (h : l[j]? = some c) : l.drop j = c :: l.drop (j + 1) := by
  have hj : j < l.length := by rw [List.getElem?_eq_some_iff] at h; exact h.1
  rw [List.drop_eq_getElem_cons hj]; rw [List.getElem?_eq_some_iff] at h; obtain ⟨_, h⟩ := h; rw [h]
abbrev s_token_end : Stmt := top 66
theorem sc_token_end : FnScope ["text", "place"] ["text", "place"] (defScope s_token_end) := ⟨rfl, rfl, rfl, by decide +kernel, rfl, by decide +kernel, by decide +kernel⟩
def sp_token_end : Sp := fun vs H Q _ => ∃ (l : List Nat) (i : Nat), vs = [.str (T l), .int i] ∧ l.length ≤ 5000 ∧ i < l.length ∧ Q (.int ((i + tokLen (l.drop i) : Nat) : Int)) H
theorem ok_token_end {f : Addr} {fd : FuncData} (T : Tp K mg ad) (c_past_run : Fc P w K mg base CX0 1 "past_run" ["text", "place", "signs"] sp_past_run) (F : Fun K "token_end" "token_end" s_token_end f fd) : FnOk P w K mg base CX0 2 f fd ["text", "place"] sp_token_end := by
  refine F.ok sc_token_end (fun vs H Q E h => ?_) (fun cdv A outer s H vs Q E hr h => ⟨_, (pss_cons (ps_if (pt_cmpR op_in_sign (pe_item_str (pv 0) (pv 1) (fun _ _ => rfl)) (pe_cst (by rfl) T.k_LETTERS) (by rfl)) (pss_one (ps_ret (pe_fc c_past_run (hr.mono (by decide)) (by rfl) (pa_cons (pv 0) (pa_cons (pv 1) (pa_cons (pe_cst (by rfl) T.k_WORD_SIGNS) pa_nil)))))) pss_nil) (pss_cons (ps_if (pt_cmpR op_in_sign (pe_item_str (pv 0) (pv 1) (fun _ _ => rfl)) (pe_cst (by rfl) T.k_DIGITS) (by rfl)) (pss_one (ps_ret (pe_fc c_past_run (hr.mono (by decide)) (by rfl) (pa_cons (pv 0) (pa_cons (pv 1) (pa_cons (pe_cst (by rfl) T.k_DIGITS) pa_nil)))))) pss_nil) (pss_one (ps_ret (pe_op op_add (pv 1) pe_int))))), ?_⟩)
  · obtain ⟨z, i, rfl, _⟩ := h
    rfl
  obtain ⟨l, i, rfl, hz, hi, k⟩ := h
  have hz1 := T_len l
  obtain ⟨c, hc⟩ : ∃ c, l[i]? = some c := ⟨l[i], by simp [hi]⟩
  have hc' := T_get hc
  have k' : ∀ n : Nat, tokLen (l.drop i) = n → Q (.int ((i + n : Nat) : Int)) H := fun n e => e ▸ k
  have e := drop_at hc
  walk_at "rd"
  refine ifd (fun h1 => ?_) (fun h1 => ?_)
  · walk_at "rd"
    refine k' _ ?_
    rw [e]; exact if_pos (decide_eq_true (T_mem.mp h1))
  · walk_at "rd"
    have h1' : ¬ inS letS c = true := by rw [inS, decide_eq_true_eq]; exact fun z => h1 (T_mem.mpr z)
    refine ifd (fun h2 => ?_) (fun h2 => ?_)
    · walk_at "rd"
      refine k' _ ?_
      rw [e]; exact (if_neg h1').trans (if_pos (decide_eq_true (T_mem.mp h2)))
    · walk_at "rd"
      refine k' 1 ?_
      rw [e]; exact (if_neg h1').trans (if_neg (by rw [inS, decide_eq_true_eq]; exact fun z => h2 (T_mem.mpr z)))
/-! ### is_number -/
def isNum (d : List Nat) : Bool := decide (d.length ≤ 7) && !(decide (d.head? = some 48) && decide (1 < d.length)) && decide (NumText.digitsVal d ≤ 1000000)
abbrev s_is_number : Stmt := top 69
theorem sc_is_number : FnScope ["digits"] ["digits"] (defScope s_is_number) := ⟨rfl, rfl, rfl, by decide +kernel, rfl, by decide +kernel, by decide +kernel⟩
def sp_is_number : Sp := fun vs H Q _ => ∃ (d : List Nat), vs = [.str (T d)] ∧ d.length ≤ 5000 ∧ d ≠ [] ∧ d.all (inS digS) = true ∧ Q (.bl (isNum d)) H
theorem dig_all {d : List Nat} (h : d.all (inS digS) = true) : d.all (fun c => decide (48 ≤ c) && decide (c ≤ 57)) = true := by
  rw [List.all_eq_true] at h ⊢
  intro c hc
  have h1 := of_decide_eq_true (h c hc)
  simp only [digS, x_DIGITS, List.mem_cons, List.not_mem_nil, or_false] at h1
  rw [Bool.and_eq_true, decide_eq_true_eq, decide_eq_true_eq]
  omega
theorem ok_is_number {f : Addr} {fd : FuncData} (T : Tp K mg ad) (F : Fun K "is_number" "is_number" s_is_number f fd) : FnOk P w K mg base CX0 1 f fd ["digits"] sp_is_number := by
  refine F.ok sc_is_number (fun vs H Q E h => ?_) (fun cdv A outer s H vs Q E hr h => ⟨_, (pss_cons (ps_if (PW.pt (pw_or (pt_cmpR op_gt (pe_callB call_len_str (by rfl) T.b_len (by decide +kernel) (pa_cons (pv 0) pa_nil)) (pe_cst (by rfl) T.k_MOST_DIGITS) (nomark _)) (pw_or1 (PW.pt (pw_and (pt_cmpR op_eq (pe_item_str (pv 0) pe_int (fun _ _ => rfl)) pe_str (nomark _)) (pw_and1 (pt_cmpR op_gt (pe_callB call_len_str (by rfl) T.b_len (by decide +kernel) (pa_cons (pv 0) pa_nil)) pe_int (nomark _)))))))) (pss_one (ps_ret pe_bl)) pss_nil) (pss_one (ps_ret (pe_cmpR op_le (pe_callTy call_int_str (by rfl) T.b_int (by decide +kernel) (pa_cons (pv 0) pa_nil)) (pe_cst (by rfl) T.k_GREATEST_NUMBER) (nomark _))))), ?_⟩)
  · obtain ⟨z, rfl, _⟩ := h
    rfl
  obtain ⟨d, rfl, hz, hne, hd, k⟩ := h
  have hz1 := T_len d
  obtain ⟨c, r, rfl⟩ : ∃ c r, d = c :: r := by cases d with | nil => exact absurd rfl hne | cons c r => exact ⟨c, r, rfl⟩
  have hc' := T_get (l := c :: r) (i := 0) (c := c) rfl
  rw [List.length_cons] at hz1 hz
  have hi := SX.int_S (dig_all hd) hne
  walk_at "rd"
  refine ifd (fun h1 => ?_) (fun h1 => ?_)
  · walk_at "rd"
    have e : isNum (c :: r) = false := by unfold isNum; rw [decide_eq_false (by rw [List.length_cons]; omega)]; rfl
    rw [e] at k; exact k
  have hi := hi (by rw [List.length_cons]; omega)
  have hcast : decide (((NumText.digitsVal (c :: r) : Nat) : Int) ≤ 1000000) = decide (NumText.digitsVal (c :: r) ≤ 1000000) := decide_eq_decide.mpr (by omega)
  walk_at "rd"
  refine ifd (fun h2 => ?_) (fun h2 => ?_)
  · have h2 := sgn h2
    walk_at "rd"
    refine ifd (fun h3 => ?_) (fun h3 => ?_)
    · walk_at "rd"
      have e : isNum (c :: r) = false := by unfold isNum; rw [decide_eq_true (show (c :: r).head? = some 48 by rw [h2]; rfl), decide_eq_true (show 1 < (c :: r).length by rw [List.length_cons]; omega)]; simp
      rw [e] at k; exact k
    · walk_at "rd"
      have e : isNum (c :: r) = decide (NumText.digitsVal (c :: r) ≤ 1000000) := by unfold isNum; rw [decide_eq_true (show (c :: r).length ≤ 7 by rw [List.length_cons]; omega), decide_eq_false (show ¬ 1 < (c :: r).length by rw [List.length_cons]; omega)]; simp
      rw [e, ← hcast] at k
      exact k
  · have h2' : c ≠ 48 := fun e => h2 (by rw [e]; rfl)
    walk_at "rd"
    have e : isNum (c :: r) = decide (NumText.digitsVal (c :: r) ≤ 1000000) := by unfold isNum; rw [decide_eq_true (show (c :: r).length ≤ 7 by rw [List.length_cons]; omega), decide_eq_false (show ¬ (c :: r).head? = some 48 by intro z; exact h2' (Option.some.inj z))]; simp
    rw [e, ← hcast] at k
    exact k
/-! ### sort_of -/
abbrev tW : List Nat := x_WORD
abbrev tN : List Nat := x_NUMBER
abbrev tS : List Nat := x_SIGN
abbrev tE : List Nat := x_END
abbrev tX : List Nat := x_STRAY
abbrev tM : List Nat := x_MALFORMED
abbrev sgnS : List Nat := x_SIGNS
def sortT (t : List Nat) : List Nat := match t with
  | [] => tX
  | c :: r => if inS letS c then (if (c :: r).length ≤ 12 then tW else tM) else if inS digS c then (if isNum (c :: r) then tN else tM) else if inS sgnS c then tS else tX
abbrev s_sort_of : Stmt := top 68
theorem sc_sort_of : FnScope ["token"] ["token"] (defScope s_sort_of) := ⟨rfl, rfl, rfl, by decide +kernel, rfl, by decide +kernel, by decide +kernel⟩
/-- of a token as token_end cuts it: a run of digits, or one sign, or a word -/
def isTok (t : List Nat) : Prop := t ≠ [] ∧ (∀ c, t.head? = some c → inS digS c = true → t.all (inS digS) = true) ∧ (∀ c, t.head? = some c → inS letS c = false → inS digS c = false → t = [c])
def sp_sort_of : Sp := fun vs H Q _ => ∃ (d : List Nat), vs = [.str (T d)] ∧ d.length ≤ 5000 ∧ isTok d ∧ Q (.str (T (sortT d))) H
theorem ok_sort_of {f : Addr} {fd : FuncData} (T : Tp K mg ad) (c_is_number : Fc P w K mg base CX0 1 "is_number" ["digits"] sp_is_number) (F : Fun K "sort_of" "sort_of" s_sort_of f fd) : FnOk P w K mg base CX0 2 f fd ["token"] sp_sort_of := by
  refine F.ok sc_sort_of (fun vs H Q E h => ?_) (fun cdv A outer s H vs Q E hr h => ⟨_, (pss_cons (ps_if (pt_cmpR op_in_sign (pe_item_str (pv 0) pe_int (fun _ _ => rfl)) (pe_cst (by rfl) T.k_LETTERS) (by rfl)) (pss_one (ps_ret (pe_ifExp (pt_cmpR op_le (pe_callB call_len_str (by rfl) T.b_len (by decide +kernel) (pa_cons (pv 0) pa_nil)) (pe_cst (by rfl) T.k_LONGEST_WORD) (nomark _)) (pe_cst (by rfl) T.k_WORD) (pe_cst (by rfl) T.k_MALFORMED)))) pss_nil) (pss_cons (ps_if (pt_cmpR op_in_sign (pe_item_str (pv 0) pe_int (fun _ _ => rfl)) (pe_cst (by rfl) T.k_DIGITS) (by rfl)) (pss_one (ps_ret (pe_ifExp (pt_val (pe_fc c_is_number (hr.mono (by decide)) (by rfl) (pa_cons (pv 0) pa_nil))) (pe_cst (by rfl) T.k_NUMBER) (pe_cst (by rfl) T.k_MALFORMED)))) pss_nil) (pss_one (ps_ret (pe_ifExp (pt_cmpR op_in_sign (pv 0) (pe_cst (by rfl) T.k_SIGNS) (by rfl)) (pe_cst (by rfl) T.k_SIGN) (pe_cst (by rfl) T.k_STRAY)))))), ?_⟩)
  · obtain ⟨z, rfl, _⟩ := h
    rfl
  obtain ⟨d, rfl, hz, ⟨hne, hd, hs⟩, k⟩ := h
  have hz1 := T_len d
  obtain ⟨c, r, rfl⟩ : ∃ c r, d = c :: r := by cases d with | nil => exact absurd rfl hne | cons c r => exact ⟨c, r, rfl⟩
  have hc' := T_get (l := c :: r) (i := 0) (c := c) rfl
  rw [List.length_cons] at hz1 hz
  have e0 : sortT (c :: r) = if inS letS c then (if (c :: r).length ≤ 12 then tW else tM) else if inS digS c then (if isNum (c :: r) then tN else tM) else if inS sgnS c then tS else tX := rfl
  walk_at "rd"
  refine ifd (fun h1 => ?_) (fun h1 => ?_)
  · rw [e0, if_pos (show inS letS c = true from decide_eq_true (T_mem.mp h1))] at k
    walk_at "rd"
    refine ifd (fun h2 => ?_) (fun h2 => ?_)
    · rw [if_pos (by rw [List.length_cons]; omega)] at k
      exact k
    · rw [if_neg (by rw [List.length_cons]; omega)] at k
      exact k
  have n1 : inS letS c = false := decide_eq_false fun z => h1 (T_mem.mpr z)
  rw [e0, if_neg (by rw [n1]; decide)] at k
  walk_at "rd"
  refine ifd (fun h2 => ?_) (fun h2 => ?_)
  · have n2 : inS digS c = true := decide_eq_true (T_mem.mp h2)
    have ha := hd c rfl n2
    rw [if_pos n2] at k
    walk_at "rd"
    refine ifb (fun h3 => ?_) (fun h3 => ?_)
    · rw [if_pos h3] at k
      exact k
    · rw [if_neg (by rw [h3]; decide)] at k
      exact k
  have n2 : inS digS c = false := decide_eq_false fun z => h2 (T_mem.mpr z)
  rw [if_neg (by rw [n2]; decide)] at k
  have e := hs c rfl n1 n2
  have e : r = [] := (List.cons.inj e).2
  subst e
  walk_at "rd"
  refine ifd (fun h3 => ?_) (fun h3 => ?_)
  · rw [if_pos (show inS sgnS c = true from decide_eq_true (T_mem.mp h3))] at k
    exact k
  · rw [if_neg (by rw [inS, decide_eq_true_eq]; exact fun z => h3 (T_mem.mpr z))] at k
    exact k
/-! ### tokens_of -/
structure Tk where
  sort : List Nat
  txt : List Nat
  pl : Nat
def TokR (H : Hp) (v : V) (t : Tk) : Prop := ∃ a, v = .ref a ∧ H a = some (.tup [.str (T t.sort), .str (T t.txt), .int t.pl])
def toks : Nat → List Nat → Nat → List Tk
  | 0, _, _ => []
  | _ + 1, [], p => [⟨tE, [], p⟩]
  | n + 1, c :: r, p => ⟨sortT ((c :: r).take (tokLen (c :: r))), (c :: r).take (tokLen (c :: r)), p⟩ :: toks n (((c :: r).drop (tokLen (c :: r))).drop (skp false ((c :: r).drop (tokLen (c :: r))))) (p + tokLen (c :: r) + skp false ((c :: r).drop (tokLen (c :: r))))
def tokensM (l : List Nat) : List Tk := toks (l.length + 1) (l.drop (skp false l)) (skp false l)
theorem run_all (p : Nat → Bool) : ∀ l, (List.take (run p l) l).all p = true
  | [] => rfl
  | c :: r => by
    unfold run
    by_cases h : p c = true
    · rw [if_pos h, List.take_succ_cons, List.all_cons, h, run_all p r]; rfl
    · rw [if_neg h]; rfl
theorem let_word {c : Nat} (h : inS letS c = true) : inS wordS c = true := by
  have h := of_decide_eq_true h
  refine decide_eq_true ?_
  exact (List.mem_append_left (bs := [48, 49, 50, 51, 52, 53, 54, 55, 56, 57, 95]) h : c ∈ x_LETTERS ++ _)
theorem dig_let {c : Nat} (h : inS digS c = true) : inS letS c = false := by
  have h := of_decide_eq_true h
  simp only [digS, x_DIGITS, List.mem_cons, List.not_mem_nil, or_false] at h
  refine decide_eq_false ?_
  simp only [letS, x_LETTERS, List.mem_cons, List.not_mem_nil, or_false]
  omega
theorem tokLen_pos (c : Nat) (r : List Nat) : 1 ≤ tokLen (c :: r) ∧ tokLen (c :: r) ≤ (c :: r).length := by
  show 1 ≤ (if _ then _ else _) ∧ (if _ then _ else _) ≤ _
  by_cases h : inS letS c = true
  · rw [if_pos h]
    refine ⟨?_, run_le _ _⟩
    show 1 ≤ if _ then _ else _
    rw [if_pos (let_word h)]; omega
  · rw [if_neg h]
    by_cases h2 : inS digS c = true
    · rw [if_pos h2]
      refine ⟨?_, run_le _ _⟩
      show 1 ≤ if _ then _ else _
      rw [if_pos h2]; omega
    · rw [if_neg h2, List.length_cons]; omega
theorem isTok_take (c : Nat) (r : List Nat) : isTok ((c :: r).take (tokLen (c :: r))) := by
  obtain ⟨h1, h2⟩ := tokLen_pos c r
  obtain ⟨k, hk⟩ : ∃ k, tokLen (c :: r) = k + 1 := ⟨tokLen (c :: r) - 1, by omega⟩
  refine ⟨by rw [hk, List.take_succ_cons]; exact List.cons_ne_nil _ _, fun d hd hdig => ?_, fun d hd n1 n2 => ?_⟩
  · rw [hk, List.take_succ_cons] at hd
    obtain rfl : c = d := Option.some.inj hd
    have e : tokLen (c :: r) = run (inS digS) (c :: r) := (if_neg (by rw [dig_let hdig]; decide)).trans (if_pos hdig)
    rw [e]; exact run_all _ _
  · rw [hk, List.take_succ_cons] at hd
    obtain rfl : c = d := Option.some.inj hd
    have e : tokLen (c :: r) = 1 := (if_neg (by rw [n1]; decide)).trans (if_neg (by rw [n2]; decide))
    rw [e]; rfl
theorem cut_L (l : List Nat) (i n : Nat) (h : i + n ≤ l.length) : List.take (HT.sIx (T l).length (T l).length (some ((i + n : Nat) : Int)) - HT.sIx (T l).length 0 (some (i : Int))) (List.drop (HT.sIx (T l).length 0 (some (i : Int))) (T l).cps.toList) = (l.drop i).take n := by
  rw [HT.sIx_nat, HT.sIx_nat, T_len, show min (i + n) l.length - min i l.length = n by omega, show min i l.length = i by omega]
  simp [T]
theorem cut_T (l : List Nat) (i n : Nat) (h : i + n ≤ l.length) : cutS (T l) (some (i : Int)) (some ((i + n : Nat) : Int)) = T ((l.drop i).take n) := by
  unfold cutS
  rw [cut_L l i n h]; rfl
abbrev s_tokens_of : Stmt := top 63
theorem sc_tokens_of : FnScope ["text", "tokens", "place", "end", "token"] ["text"] (defScope s_tokens_of) := ⟨rfl, rfl, rfl, by decide +kernel, rfl, by decide +kernel, by decide +kernel⟩
def sp_tokens_of : Sp := fun vs H Q _ => ∃ (l : List Nat), vs = [.str (T l)] ∧ l.length ≤ 5000 ∧ ∀ p ws H', H p = none → Same H H' → H' p = some (.lst ws) → Paired (TokR H') ws (tokensM l) → ws.length ≤ 5001 → Q (.ref p) H'
theorem TokR.ch {H0 H H' : Hp} {l : Addr} {vs : List V} {o : HO} (c : Ch H0 H H' l o) (hl : H l = some (.lst vs)) {v : V} {t : Tk} (h : TokR H v t) : TokR H' v t := by
  obtain ⟨a, rfl, h⟩ := h
  exact ⟨a, rfl, c.keep a _ (fun e => by rw [e, hl] at h; cases h) h⟩
theorem TokR.same {H H' : Hp} (s : Same H H') {v : V} {t : Tk} (h : TokR H v t) : TokR H' v t := by
  obtain ⟨a, rfl, h⟩ := h
  exact ⟨a, rfl, s _ _ h⟩
theorem ok_tokens_of {f : Addr} {fd : FuncData} (T : Tp K mg ad) (c_past_blanks : Fc P w K mg base CX0 2 "past_blanks" ["text", "place"] sp_past_blanks) (c_token_end : Fc P w K mg base CX0 2 "token_end" ["text", "place"] sp_token_end)
    (c_sort_of : Fc P w K mg base CX0 2 "sort_of" ["token"] sp_sort_of) (F : Fun K "tokens_of" "tokens_of" s_tokens_of f fd) : FnOk P w K mg base CX0 3 f fd ["text"] sp_tokens_of := by
  refine F.ok sc_tokens_of (fun vs H Q E h => ?_) (fun cdv A outer s H vs Q E hr h => ⟨_, (pss_cons (ps_set (i := 1) sc_tokens_of.nd rfl (.inl rfl) (pe_lst pa_nil)) (pss_cons (ps_set (i := 2) sc_tokens_of.nd rfl (.inl rfl) (pe_fc c_past_blanks (hr.mono (by decide)) (by rfl) (pa_cons (pv 0) (pa_cons pe_int pa_nil)))) (pss_cons (ps_whileO PassesOwn.never (pt_cmpR op_lt (pv 2) (pe_callB call_len_str (by rfl) T.b_len (by decide +kernel) (pa_cons (pv 0) pa_nil)) (nomark _)) (pss_cons (ps_set (i := 3) sc_tokens_of.nd rfl (.inl rfl) (pe_fc c_token_end (hr.mono (by decide)) (by rfl) (pa_cons (pv 0) (pa_cons (pv 2) pa_nil)))) (pss_cons (ps_set (i := 4) sc_tokens_of.nd rfl (.inl rfl) (pe_slice sl_str (pv 0) (po_some (pv 2)) (po_some (pv 3)))) (pss_cons (ps_expr (pe_bm PySem.F.plainAttrs_list PySem.F.slot_list_append PySem.F.type_list_append mt_appL (pv 1) (pa_cons (pe_tup (pa_cons (pe_fc c_sort_of (hr.mono (by decide)) (by rfl) (pa_cons (pv 4) pa_nil)) (pa_cons (pv 4) (pa_cons (pv 2) pa_nil)))) pa_nil))) (pss_one (ps_set (i := 2) sc_tokens_of.nd rfl (.inl rfl) (pe_fc c_past_blanks (hr.mono (by decide)) (by rfl) (pa_cons (pv 0) (pa_cons (pv 3) pa_nil))))))))) (pss_cons (ps_expr (pe_bm PySem.F.plainAttrs_list PySem.F.slot_list_append PySem.F.type_list_append mt_appL (pv 1) (pa_cons (pe_tup (pa_cons (pe_cst (by rfl) T.k_END) (pa_cons pe_str (pa_cons (pe_callB call_len_str (by rfl) T.b_len (by decide +kernel) (pa_cons (pv 0) pa_nil)) pa_nil)))) pa_nil))) (pss_one (ps_ret (pv 1))))))), ?_⟩)
  · obtain ⟨z, rfl, _⟩ := h
    rfl
  obtain ⟨l, rfl, hz, k⟩ := h
  have hz1 := T_len l
  walk_at "rd"
  refine al fun p H1 n1 s1 h1 => ?_
  have hsk := skp_le false l
  walk_at "rd"
  refine ⟨⟨fun m σ H' => ∃ (j : Nat) (x y : Option V) (ws : List V) (ts : List Tk) (n : Nat), σ = [some (.str (Tw.T l)), some (.ref p), some (.int j), x, y] ∧ j ≤ l.length ∧ m = l.length - j ∧ Same H H' ∧ H' p = some (.lst ws) ∧ Paired (TokR H') ws ts ∧ ts ++ toks n (l.drop j) j = tokensM l ∧ l.length - j < n ∧ ws.length ≤ j, ⟨_, 0 + skp false (l.drop 0), _, _, [], [], l.length + 1, rfl, by simpa using hsk, rfl, s1, h1, .nil, by rw [List.drop_zero, Nat.zero_add]; rfl, by omega, Nat.zero_le _⟩, ?_⟩⟩
  rintro m σ H2 ⟨j, x, y, ws, ts, n, rfl, hj, rfl, s2, h2, pr, e, hn, hw⟩
  walk_at "rd"
  refine ifd (fun h3 => ?_) (fun h3 => ?_)
  · obtain ⟨c, hc⟩ : ∃ c, l[j]? = some c := ⟨l[j]'(by omega), by simp [show j < l.length by omega]⟩
    have ed := drop_at hc
    obtain ⟨p1, p2⟩ := tokLen_pos c (l.drop (j + 1))
    rw [← ed, List.length_drop] at p2
    rw [← ed] at p1
    have hle : j + tokLen (l.drop j) ≤ l.length := by omega
    have eL := cut_L l j (tokLen (l.drop j)) hle
    have eT := cut_T l j (tokLen (l.drop j)) hle
    have iT := isTok_take c (l.drop (j + 1))
    rw [← ed] at iT
    refine wnx ?_
    walk_at "rd"
    refine ⟨by rw [eL, List.length_take]; omega, by rw [eL]; exact iT, ?_⟩
    walk_at "rd"
    refine al fun q H3 n3 s3 h3 => ?_
    have h2' := s3 _ _ h2
    walk_at "rd"
    rintro _ rfl
    walk_at "rd"
    have cc : Ch H H3 _ p _ := chU (o := .lst (ws ++ [.ref q]))
    have e' : toks n (l.drop j) j = ⟨sortT ((l.drop j).take (tokLen (l.drop j))), (l.drop j).take (tokLen (l.drop j)), j⟩ :: toks (n - 1) (l.drop (j + tokLen (l.drop j) + skp false (l.drop (j + tokLen (l.drop j))))) (j + tokLen (l.drop j) + skp false (l.drop (j + tokLen (l.drop j)))) := by
      obtain ⟨n, rfl⟩ : ∃ n', n = n' + 1 := ⟨n - 1, by omega⟩
      conv => lhs; rw [ed]
      show _ :: _ = _
      rw [← ed]; simp only [List.drop_drop, Nat.add_assoc, Nat.add_sub_cancel]
    have hk := skp_le false (l.drop (j + tokLen (l.drop j)))
    rw [List.length_drop] at hk
    refine ⟨⟨_, ?_, j + tokLen (l.drop j) + skp false (l.drop (j + tokLen (l.drop j))), _, _, ws ++ [.ref q], ts ++ [⟨sortT ((l.drop j).take (tokLen (l.drop j))), (l.drop j).take (tokLen (l.drop j)), j⟩], n - 1, rfl, by omega, rfl, cc.old (s2.trans s3) n1, cc.here, ?_, ?_, by omega, ?_⟩⟩
    · omega
    · refine Paired.snoc (Paired.mono (fun v t h => TokR.ch cc h2' (TokR.same s3 h)) pr) ⟨q, rfl, cc.keep q _ (fun z => by rw [z, h2'] at h3; cases h3) ?_⟩
      rw [h3, eL, eT]
    · rw [List.append_assoc]
      show ts ++ ([_] ++ _) = _
      rw [← e, e']; rfl
    · rw [List.length_append, List.length_singleton]; omega
  · walk_at "rd"
    refine al fun q H3 n3 s3 h3 => ?_
    have h2' := s3 _ _ h2
    walk_at "rd"
    rintro _ rfl
    walk_at "rd"
    have cc : Ch H H3 _ p _ := chU (o := .lst (ws ++ [.ref q]))
    have ej : j = l.length := by omega
    have e' : toks n (l.drop j) j = [⟨tE, [], l.length⟩] := by
      obtain ⟨n, rfl⟩ : ∃ n', n = n' + 1 := ⟨n - 1, by omega⟩
      rw [List.drop_of_length_le (by omega), ej]; rfl
    refine k p (ws ++ [.ref q]) _ n1 (cc.old (s2.trans s3) n1) cc.here ?_ (by rw [List.length_append, List.length_singleton]; omega)
    rw [← e, e']
    exact Paired.snoc (Paired.mono (fun v t h => TokR.ch cc h2' (TokR.same s3 h)) pr) ⟨q, rfl, cc.keep q _ (fun z => by rw [z, h2'] at h3; cases h3) h3⟩
end Tw
namespace Tw
open PySem PySem.Spec PyProof.Rows L2

variable {P : Program} {w : World} {K : PySem.W.Frag} {mg : Str → Option Value} {base : Heap} {ad : Ads}
/-! ### characters_of -/
theorem take_more {α : Type} : ∀ {l : List α} {i : Nat} {x : α}, l[i]? = some x → l.take (i + 1) = l.take i ++ [x]
  | [], i, x, h => by simp at h
  | a :: l, 0, x, h => by
    have e : a = x := Option.some.inj h
    subst e
    rfl
  | a :: l, i + 1, x, h => by
    have ih := take_more (l := l) (i := i) (x := x) h
    show a :: l.take (i + 1) = a :: l.take i ++ [x]
    rw [ih]; rfl
theorem map_get {α β : Type} {f : α → β} {l : List α} {i : Nat} {y : β} (h : (l.map f)[i]? = some y) : ∃ x, l[i]? = some x ∧ y = f x := by
  rw [List.getElem?_map] at h
  cases e : l[i]? with
  | none => rw [e] at h; cases h
  | some x => rw [e] at h; exact ⟨x, rfl, (Option.some.inj h).symm⟩
abbrev knownS : List Nat := x_KNOWN_SIGNS
def chr1 (n : Int) : Nat := if n = 9 ∨ n = 13 then 32 else if 0 ≤ n ∧ inS knownS n.toNat = true then n.toNat else 63
def known0 : List (Key × V) := mergeK [] [(.inl 9, .str (T [32])), (.inl 13, .str (T [32]))]
def knownBy (l : List Nat) : List (Key × V) := l.foldl (fun kvs (c : Nat) => putK kvs (.inl (c : Int)) (.str ⟨#[c]⟩)) known0
theorem known_get (n : Int) : ∀ (l : List Nat) (kvs : List (Key × V)), valV (l.foldl (fun kvs (c : Nat) => putK kvs (.inl (c : Int)) (.str ⟨#[c]⟩)) kvs) (.inl n) = if 0 ≤ n ∧ n.toNat ∈ l then some (V.str ⟨#[n.toNat]⟩) else valV kvs (.inl n)
  | [], kvs => by simp
  | c :: r, kvs => by
    rw [List.foldl_cons, known_get n r, valV_put]
    by_cases h1 : 0 ≤ n ∧ n.toNat ∈ r
    · rw [if_pos h1, if_pos ⟨h1.1, List.mem_cons_of_mem _ h1.2⟩]
    · rw [if_neg h1]
      by_cases h2 : n = (c : Int)
      · subst h2
        rw [if_pos rfl, if_pos ⟨by omega, by simp⟩]; simp
      · rw [if_neg (fun e => h2 (Sum.inl.inj e)), if_neg]
        rintro ⟨h3, h4⟩
        rcases List.mem_cons.mp h4 with h5 | h5
        · exact h2 (by omega)
        · exact h1 ⟨h3, h5⟩
theorem known_chr (n : Int) : (valV (knownBy knownS) (.inl n)).getD (.str (T [63])) = .str (T [chr1 n]) := by
  unfold knownBy
  rw [known_get]
  unfold chr1
  have e0 : valV known0 (.inl n) = if n = 9 ∨ n = 13 then some (.str (T [32])) else none := by
    unfold known0 mergeK
    rw [List.foldl_cons, List.foldl_cons, List.foldl_nil, valV_put, valV_put, valV_nil]
    by_cases h1 : n = 13
    · subst h1; rw [if_pos rfl, if_pos (Or.inr rfl)]
    · rw [if_neg (fun e => h1 (Sum.inl.inj e))]
      by_cases h2 : n = 9
      · subst h2; rw [if_pos rfl, if_pos (Or.inl rfl)]
      · rw [if_neg (fun e => h2 (Sum.inl.inj e)), if_neg (by omega)]
  rw [e0]
  by_cases h : n = 9 ∨ n = 13
  · rw [if_pos h, if_pos h, if_neg]
    · rfl
    · rintro ⟨_, h2⟩
      rcases h with rfl | rfl
      · revert h2; decide
      · revert h2; decide
  · rw [if_neg h, if_neg h]
    by_cases h2 : 0 ≤ n ∧ n.toNat ∈ knownS
    · rw [if_pos h2, if_pos ⟨h2.1, decide_eq_true h2.2⟩]; rfl
    · rw [if_neg h2, if_neg (fun z => h2 ⟨z.1, of_decide_eq_true z.2⟩)]; rfl
theorem known_len : ∀ (l : List Nat) (kvs : List (Key × V)), (l.foldl (fun kvs (c : Nat) => putK kvs (.inl (c : Int)) (V.str ⟨#[c]⟩)) kvs).length ≤ kvs.length + l.length
  | [], kvs => by simp
  | c :: r, kvs => by
    have h1 := known_len r (putK kvs (.inl (c : Int)) (V.str ⟨#[c]⟩))
    have h2 := length_putK kvs (.inl (c : Int)) (V.str ⟨#[c]⟩)
    rw [List.foldl_cons, List.length_cons]; omega
theorem join_sing : ∀ l : List Nat, Str.join (T []) (l.map fun c => T [c]) = T l := by
  intro l
  refine TL.ext_tl ?_
  rw [TL.tl_join]
  induction l with
  | nil => rfl
  | cons c r ih =>
    cases r with
    | nil => rfl
    | cons d r =>
      show [c] ++ ([] ++ _) = _
      exact congrArg (c :: ·) ih
abbrev s_characters_of : Stmt := top 62
theorem sc_characters_of : FnScope ["numbers", "known", "character", "number"] ["numbers"] (defScope s_characters_of) := ⟨rfl, rfl, rfl, by decide +kernel, rfl, by decide +kernel, by decide +kernel⟩
def sp_characters_of : Sp := fun vs H Q _ => ∃ (a : Addr) (ns : List Int), vs = [.ref a] ∧ H a = some (.lst (ns.map V.int)) ∧ ns.length ≤ 5000 ∧ ∀ H', Same H H' → Q (.str (T (ns.map chr1))) H'
theorem ok_characters_of {f : Addr} {fd : FuncData} (T : Tp K mg ad) (F : Fun K "characters_of" "characters_of" s_characters_of f fd) : FnOk P w K mg base CX0 1 f fd ["numbers"] sp_characters_of := by
  refine F.ok sc_characters_of (fun vs H Q E h => ?_) (fun cdv A outer s H vs Q E hr h => ⟨_, (pss_cons (ps_set (i := 1) sc_characters_of.nd rfl (.inr rfl) (pe_disp (pps_cons pe_int pe_str (pps_cons pe_int pe_str pps_nil)) (by rfl) (by rfl) (fun z => by cases z) (by decide))) (pss_cons (ps_forO PassesOwn.never rfl (pi_str (pe_cst (by rfl) T.k_KNOWN_SIGNS)) (pg_name (i := 2) sc_characters_of.nd rfl (.inl rfl)) (pss_one (ps_dput (hu_of hr) (pv 1) (pe_callB call_ord (by rfl) T.b_ord (by decide +kernel) (pa_cons (pv 2) pa_nil)) (pv 2) rfl))) (pss_one (ps_ret (pe_join pe_str (pe_lc (own := [("number", 3)]) (g := gName 3) (tt := tYes) rfl sc_characters_of.nd (pi_list (pv 0)) (blkOk_by (N := ["numbers", "known", "character", "number"]) (sc := defScope s_characters_of) (by decide +kernel)) (fun _ _ _ _ _ => pg_name (i := 3) sc_characters_of.nd rfl (Or.inl rfl)) (fun _ _ _ _ _ => pts_nil) (fun _ _ _ _ _ => (pe_dget2 (hu_of hr) (pv 1) (pv 3) (pe_cst (by rfl) T.k_UNKNOWN_SIGN) ⟨rfl, rfl, rfl, rfl⟩)))))))), ?_⟩)
  · obtain ⟨a, ns, rfl, _⟩ := h
    rfl
  obtain ⟨a, ns, rfl, ha, hz, k⟩ := h
  refine fun d hd => ?_
  refine ⟨upd_same, [(.inl 9, .str (Tw.T [32])), (.inl 13, .str (Tw.T [32]))], rfl, by decide, ?_⟩
  have s0 : Same H (upd (upd H d (.dK [])) d (.dK known0)) := fun b u e => by rw [upd_ne (ne_of_none e hd), upd_ne (ne_of_none e hd)]; exact e
  refine ⟨⟨_, rfl, for_it walk_str (fun i σ H' => Nx (∃ x y, σ = [some (.ref a), some (.ref d), x, y] ∧ Same H H' ∧ H' d = some (.dK (knownBy (knownS.take i))))) ⟨_, _, rfl, s0, upd_same.trans rfl⟩ (fun _ _ _ _ _ => trivial) ?_ ?_⟩⟩
  · rintro i v σ H1 H1' hi ⟨x, y, rfl, s1, h1⟩ ⟨rfl, c, hc, rfl⟩
    have hk : knownBy (knownS.take (i + 1)) = putK (knownBy (knownS.take i)) (.inl (c : Int)) (V.str ⟨#[c]⟩) := by
      have hc : knownS[i]? = some c := by simpa [Tw.T] using hc
      unfold knownBy
      rw [take_more hc, List.foldl_append]; rfl
    have hl : (knownBy (knownS.take i)).length < sizeLine := by
      have h1 := known_len (knownS.take i) known0
      have h2 : (knownS.take i).length ≤ 45 := by rw [List.length_take]; exact Nat.min_le_right _ _
      have h3 : known0.length = 2 := rfl
      unfold knownBy
      refine Nat.lt_of_lt_of_le ?_ (by decide : 100000 ≤ sizeLine)
      omega
    walk_at "rd"
    refine And.intro (by exact DPut.k (k := .inl (c : Int)) h1 hl) ?_
    exact ⟨⟨_, _, rfl, fun b u e => by rw [upd_ne (ne_of_none e hd)]; exact s1 b u e, by rw [hk]; exact upd_same⟩⟩
  · rintro σ H1 ⟨x, y, rfl, s1, h1⟩
    have ha1 := s1 _ _ ha
    refine ⟨⟨_, rfl⟩, _, rfl, a, rfl, ⟨_, .inl (.inl ha1)⟩, fun D hD => ?_⟩
    refine lc_it walk_list (fun i H' => Nx (Same H1 H' ∧ H' D = some (.lst ((ns.take i).map fun n => .str (Tw.T [chr1 n]))))) ⟨⟨fun b u e => by rw [upd_ne (ne_of_none e hD)]; exact e, upd_same⟩⟩ (fun i H' _ q => .inl (.inl (q.h.1 _ _ ha1))) ?_ ?_
    · rintro i v H2 H2' hi ⟨s2, h2⟩ ⟨rfl, hv⟩
      obtain ⟨n, hn, rfl⟩ := map_get hv
      have h1' := s2 _ _ h1
      walk_at "rd"
      refine ⟨.inl ⟨_, .inl h1'⟩, ?_⟩
      walk_at "rd"
      refine And.intro (by exact DGet.k (k := .inl n) h1') ?_
      rw [show (Tw.T x_KNOWN_SIGNS).cps.size = knownS.length from rfl, List.take_length]
      rw [show x_UNKNOWN_SIGN = [63] from rfl, known_chr n]
      have hl : (ns.take i).length ≤ 5000 := Nat.le_trans (List.length_take_le' ..) hz
      have hl2 : ((ns.take i).map fun n => V.str (Tw.T [chr1 n])).length ≤ 5000 := by rw [List.length_map]; exact hl
      walk_at "rd"
      refine ⟨⟨fun b u e => by rw [upd_ne (ne_of_none e hD)]; exact s2 b u e, ?_⟩⟩
      rw [take_more hn, List.map_append]
      exact upd_same
    · rintro H2 ⟨s2, h2⟩
      rw [List.length_map, List.take_length] at h2
      refine ⟨_, D, ns.map fun n => Tw.T [chr1 n], rfl, rfl, .inl (.inl (.inl ?_)), ?_, ?_⟩
      · rw [List.map_map]; exact h2
      · rw [List.map_map, List.length_map]
        have e : ∀ l : List Int, (l.map ((fun s : Str => s.length) ∘ fun n => Tw.T [chr1 n])).sum = l.length := by
          intro l
          induction l with
          | nil => rfl
          | cons c r ih => rw [List.map_cons, List.sum_cons, ih, List.length_cons]; show 1 + _ = _; omega
        rw [e]
        show _ + _ * 0 ≤ _
        omega
      · refine cast (congrArg (fun z => Q (.str z) H2) ?_) (k H2 (s1.trans s2))
        exact ((join_sing (ns.map chr1)).symm.trans (by rw [List.map_map]; exact (TL.join_eq _ _).symm))
end Tw
namespace Tw
open PySem PySem.Spec PyProof.Rows L2
/-! ### the program's tokens and the specification's -/
open VauowBase (Toks tokensIn blank small digit inner goodNumber valueIn)
def bch (c : Nat) : Nat := chr1 (c : Int)
def tokOf (t : Tk) : VauowBase.Tok := if t.sort = tE then .over else if t.sort = tW then .word t.txt else if t.sort = tN then .num (valueIn t.txt) else if t.sort = tS then .sign (t.txt.headD 0) else if t.sort = tX then .bad 1 else .bad 2
def isLast (t : Tk) : Bool := decide (t.sort = tE) || decide (t.sort = tX) || decide (t.sort = tM)
def specT : List Tk → Toks
  | [] => []
  | t :: r => (t.pl, tokOf t) :: (if isLast t then [] else specT r)
theorem mem_known {c : Nat} (h : inS wordS c = true) : inS knownS c = true := by
  have h := of_decide_eq_true h
  have e : knownS = [10, 32, 35, 45, 58, 59, 123, 125] ++ wordS := rfl
  exact decide_eq_true (by rw [e]; exact List.mem_append_right _ h)
theorem inS_known (c : Nat) : inS knownS c = true ↔ c = 10 ∨ c = 32 ∨ c = 35 ∨ c = 45 ∨ c = 58 ∨ c = 59 ∨ c = 123 ∨ c = 125 ∨ (97 ≤ c ∧ c ≤ 122) ∨ (48 ≤ c ∧ c ≤ 57) ∨ c = 95 := by
  simp only [inS, decide_eq_true_eq, knownS, x_KNOWN_SIGNS, List.mem_cons, List.not_mem_nil, or_false]
  omega
theorem inS_let (c : Nat) : inS letS c = true ↔ 97 ≤ c ∧ c ≤ 122 := by
  simp only [inS, decide_eq_true_eq, letS, x_LETTERS, List.mem_cons, List.not_mem_nil, or_false]
  omega
theorem inS_dig (c : Nat) : inS digS c = true ↔ 48 ≤ c ∧ c ≤ 57 := by
  simp only [inS, decide_eq_true_eq, digS, x_DIGITS, List.mem_cons, List.not_mem_nil, or_false]
  omega
theorem inS_word (c : Nat) : inS wordS c = true ↔ (97 ≤ c ∧ c ≤ 122) ∨ (48 ≤ c ∧ c ≤ 57) ∨ c = 95 := by
  simp only [inS, decide_eq_true_eq, wordS, x_WORD_SIGNS, List.mem_cons, List.not_mem_nil, or_false]
  omega
theorem inS_sgn (c : Nat) : inS sgnS c = true ↔ c = 45 ∨ c = 58 ∨ c = 59 ∨ c = 123 ∨ c = 125 := by
  simp only [inS, decide_eq_true_eq, sgnS, x_SIGNS, List.mem_cons, List.not_mem_nil, or_false]
theorem inS_bl (c : Nat) : inS [32, 10] c = true ↔ c = 32 ∨ c = 10 := by
  simp only [inS, decide_eq_true_eq, List.mem_cons, List.not_mem_nil, or_false]
theorem ch_eq (c : Nat) : bch c = if c = 9 ∨ c = 13 then 32 else if inS knownS c = true then c else 63 := by
  unfold bch chr1
  by_cases h : c = 9 ∨ c = 13
  · rw [if_pos h, if_pos (by omega)]
  · rw [if_neg h, if_neg (by omega)]
    by_cases h2 : inS knownS c = true
    · rw [if_pos h2, if_pos ⟨by omega, by simpa using h2⟩]; simp
    · rw [if_neg h2, if_neg (fun z => h2 (by simpa using z.2))]
/-- what a byte is, and what its sign is -/
theorem ch_cases (c : Nat) : (bch c = c ∧ inS knownS c = true) ∨ (bch c = 32 ∧ (c = 9 ∨ c = 13)) ∨ (bch c = 63 ∧ ¬ inS knownS c = true ∧ c ≠ 9 ∧ c ≠ 13) := by
  rw [ch_eq]
  by_cases h : c = 9 ∨ c = 13
  · rw [if_pos h]; exact .inr (.inl ⟨rfl, h⟩)
  · rw [if_neg h]
    by_cases h2 : inS knownS c = true
    · rw [if_pos h2]; exact .inl ⟨rfl, h2⟩
    · rw [if_neg h2]; exact .inr (.inr ⟨rfl, h2, by omega, by omega⟩)
theorem beq_nat {p q : Bool} (h : p = true ↔ q = true) : p = q := by
  cases p <;> cases q <;> simp_all
theorem ch_word (c : Nat) : inS wordS (bch c) = inner c := by
  refine beq_nat ?_
  rw [inS_word]
  unfold inner small digit
  simp only [Bool.or_eq_true, Bool.and_eq_true, decide_eq_true_eq, beq_iff_eq]
  rcases ch_cases c with ⟨h, k⟩ | ⟨h, k⟩ | ⟨h, k⟩
  · rw [h]; omega
  · rw [h]; omega
  · rw [h]; rw [inS_known] at k; omega
theorem ch_dig (c : Nat) : inS digS (bch c) = digit c := by
  refine beq_nat ?_
  rw [inS_dig]
  unfold digit
  simp only [Bool.or_eq_true, Bool.and_eq_true, decide_eq_true_eq, beq_iff_eq]
  rcases ch_cases c with ⟨h, k⟩ | ⟨h, k⟩ | ⟨h, k⟩
  · rw [h]
  · rw [h]; omega
  · rw [h]; rw [inS_known] at k; omega
theorem ch_let (c : Nat) : inS letS (bch c) = small c := by
  refine beq_nat ?_
  rw [inS_let]
  unfold small
  simp only [Bool.or_eq_true, Bool.and_eq_true, decide_eq_true_eq, beq_iff_eq]
  rcases ch_cases c with ⟨h, k⟩ | ⟨h, k⟩ | ⟨h, k⟩
  · rw [h]
  · rw [h]; omega
  · rw [h]; rw [inS_known] at k; omega
theorem ch_bl (c : Nat) : inS [32, 10] (bch c) = blank c := by
  refine beq_nat ?_
  rw [inS_bl]
  unfold blank
  simp only [Bool.or_eq_true, beq_iff_eq]
  rcases ch_cases c with ⟨h, k⟩ | ⟨h, k⟩ | ⟨h, k⟩
  · rw [h]; rw [inS_known] at k; omega
  · rw [h]; omega
  · rw [h]; rw [inS_known] at k; omega
theorem ch_sgn (c : Nat) : inS sgnS (bch c) = VauowBase.signs.contains c := by
  refine beq_nat ?_
  rw [inS_sgn]
  have e : VauowBase.signs.contains c = true ↔ c = 45 ∨ c = 58 ∨ c = 59 ∨ c = 123 ∨ c = 125 := by
    rw [List.contains_iff_mem]
    simp only [VauowBase.signs, List.mem_cons, List.not_mem_nil, or_false]
  rw [e]
  rcases ch_cases c with ⟨h, k⟩ | ⟨h, k⟩ | ⟨h, k⟩
  · rw [h]
  · rw [h]; omega
  · rw [h]; rw [inS_known] at k; omega
theorem ch_nl (c : Nat) : notNl (bch c) = (c != 10) := by
  refine beq_nat ?_
  simp only [notNl, Bool.not_eq_true', decide_eq_false_iff_not, bne_iff_ne, ne_eq]
  rcases ch_cases c with ⟨h, k⟩ | ⟨h, k⟩ | ⟨h, k⟩
  · rw [h]
  · rw [h]; omega
  · rw [h]; rw [inS_known] at k; omega
theorem ch_hash (c : Nat) : bch c = 35 ↔ c = 35 := by
  rcases ch_cases c with ⟨h, k⟩ | ⟨h, k⟩ | ⟨h, k⟩
  · rw [h]
  · rw [h]; omega
  · rw [h]; rw [inS_known] at k; omega
theorem ch_inner {c : Nat} (h : inner c = true) : bch c = c := by
  rw [← ch_word] at h
  rcases ch_cases c with ⟨h1, k⟩ | ⟨h1, k⟩ | ⟨h1, k⟩
  · exact h1
  · rw [h1] at h; cases h
  · rw [h1] at h; cases h
/-- a run of signs over bytes -/
theorem run_map {p q : Nat → Bool} (h : ∀ c, p (bch c) = q c) : ∀ r : List Nat, (r.map bch).take (run p (r.map bch)) = (r.takeWhile q).map bch ∧ (r.map bch).drop (run p (r.map bch)) = (r.dropWhile q).map bch ∧ run p (r.map bch) = (r.takeWhile q).length
  | [] => ⟨rfl, rfl, rfl⟩
  | c :: r => by
    obtain ⟨h1, h2, h3⟩ := run_map h r
    rw [List.map_cons]
    unfold run
    by_cases hc : q c = true
    · rw [if_pos (by rw [h, hc]), List.takeWhile_cons, if_pos hc, List.dropWhile_cons, if_pos hc, List.take_succ_cons, List.drop_succ_cons, h1, h2, h3]
      exact ⟨rfl, rfl, rfl⟩
    · rw [if_neg (by rw [h]; exact hc), List.takeWhile_cons, if_neg hc, List.dropWhile_cons, if_neg hc]
      exact ⟨rfl, rfl, rfl⟩
theorem map_ch {q : Nat → Bool} (h : ∀ c, q c = true → bch c = c) : ∀ r : List Nat, (r.takeWhile q).map bch = r.takeWhile q
  | [] => rfl
  | c :: r => by
    rw [List.takeWhile_cons]
    by_cases hc : q c = true
    · rw [if_pos hc, List.map_cons, h c hc, map_ch h r]
    · rw [if_neg hc]; rfl
theorem value_eq (l : List Nat) : valueIn l = NumText.digitsVal l := by
  unfold valueIn NumText.digitsVal
  congr 1
  funext n c
  rw [Nat.mul_comm]
theorem dig_inner {c : Nat} (h : digit c = true) : inner c = true := by
  unfold inner; rw [h]; simp
theorem tw_cons {q : Nat → Bool} {c : Nat} {r : List Nat} (h : q c = true) : (c :: r).takeWhile q = c :: r.takeWhile q ∧ (c :: r).dropWhile q = r.dropWhile q := by
  rw [List.takeWhile_cons, if_pos h, List.dropWhile_cons, if_pos h]; exact ⟨rfl, rfl⟩
/-- the first token of a text that begins with no blank and no remark, and what is behind it -/
theorem tok_word {c : Nat} {r : List Nat} (h : small c = true) : ((c :: r).map bch).take (tokLen ((c :: r).map bch)) = c :: r.takeWhile inner ∧ ((c :: r).map bch).drop (tokLen ((c :: r).map bch)) = (r.dropWhile inner).map bch ∧ tokLen ((c :: r).map bch) = (r.takeWhile inner).length + 1 := by
  have hi : inner c = true := by unfold inner; rw [h]; simp
  have e : tokLen ((c :: r).map bch) = run (inS wordS) ((c :: r).map bch) := by
    rw [List.map_cons]; exact if_pos (by rw [ch_let]; exact h)
  obtain ⟨h1, h2, h3⟩ := run_map ch_word (c :: r)
  obtain ⟨t1, t2⟩ := tw_cons (r := r) hi
  rw [e, h1, h2, h3, map_ch (fun c h => ch_inner h), t1, t2]
  exact ⟨rfl, rfl, rfl⟩
theorem small_dig {c : Nat} (h : digit c = true) : small c = false := by
  unfold digit small at *
  simp only [Bool.and_eq_true, decide_eq_true_eq] at h
  rw [decide_eq_false (by omega)]; rfl
theorem tok_dig {c : Nat} {r : List Nat} (h : digit c = true) : ((c :: r).map bch).take (tokLen ((c :: r).map bch)) = c :: r.takeWhile digit ∧ ((c :: r).map bch).drop (tokLen ((c :: r).map bch)) = (r.dropWhile digit).map bch ∧ tokLen ((c :: r).map bch) = (r.takeWhile digit).length + 1 := by
  have e : tokLen ((c :: r).map bch) = run (inS digS) ((c :: r).map bch) := by
    rw [List.map_cons]; exact (if_neg (by rw [ch_let, small_dig h]; decide)).trans (if_pos (by rw [ch_dig]; exact h))
  obtain ⟨h1, h2, h3⟩ := run_map ch_dig (c :: r)
  obtain ⟨t1, t2⟩ := tw_cons (r := r) h
  rw [e, h1, h2, h3, map_ch (fun c h => ch_inner (dig_inner h)), t1, t2]
  exact ⟨rfl, rfl, rfl⟩
theorem tok_one {c : Nat} {r : List Nat} (h1 : small c = false) (h2 : digit c = false) : ((c :: r).map bch).take (tokLen ((c :: r).map bch)) = [bch c] ∧ ((c :: r).map bch).drop (tokLen ((c :: r).map bch)) = r.map bch ∧ tokLen ((c :: r).map bch) = 1 := by
  have e : tokLen ((c :: r).map bch) = 1 := by
    rw [List.map_cons]; exact (if_neg (by rw [ch_let, h1]; decide)).trans (if_neg (by rw [ch_dig, h2]; decide))
  rw [e]; exact ⟨rfl, rfl, rfl⟩
theorem good_eq (d : List Nat) (h : d ≠ []) : isNum d = goodNumber d := by
  refine beq_nat ?_
  unfold isNum goodNumber
  simp only [Bool.and_eq_true, Bool.not_eq_true', Bool.and_eq_false_iff, decide_eq_true_eq, decide_eq_false_iff_not, Bool.or_eq_true, beq_iff_eq, bne_iff_ne, ne_eq, value_eq]
  have hl : 0 < d.length := List.length_pos_iff.mpr h
  have e : ((NumText.digitsVal d : Nat) : Int) ≤ VauowBase.TOP ↔ NumText.digitsVal d ≤ 1000000 := by
    show _ ≤ (1000000 : Int) ↔ _
    omega
  rw [e]
  constructor
  · rintro ⟨⟨h1, h2⟩, h3⟩
    refine ⟨⟨h1, ?_⟩, h3⟩
    rcases h2 with h2 | h2
    · exact .inr h2
    · exact .inl (by omega)
  · rintro ⟨⟨h1, h2⟩, h3⟩
    refine ⟨⟨h1, ?_⟩, h3⟩
    rcases h2 with h2 | h2
    · exact .inr (by omega)
    · exact .inl h2
/-- the tokens -/
theorem tokens_go (whole : Nat) : ∀ (k n : Nat) (l : List Nat) (p : Nat), l.length < k → l.length < n → p + l.length = whole →
    tokensIn whole k l = specT (toks n ((l.map bch).drop (skp false (l.map bch))) (p + skp false (l.map bch)))
  | 0, n, l, p, hk, hn, hp => absurd hk (Nat.not_lt_zero _)
  | k + 1, n, [], p, hk, hn, hp => by
    obtain ⟨n, rfl⟩ : ∃ n', n = n' + 1 := ⟨n - 1, by rw [List.length_nil] at hn; omega⟩
    rw [List.length_nil, Nat.add_zero] at hp
    show [(whole, VauowBase.Tok.over)] = specT [⟨tE, [], p + 0⟩]
    rw [hp]; rfl
  | k + 1, n, c :: r, p, hk, hn, hp => by
    rw [List.length_cons] at hk hn hp
    show (if blank c then _ else _) = _
    by_cases hb : blank c = true
    · rw [if_pos hb, tokens_go whole k n r (p + 1) (by omega) (by omega) (by omega)]
      have hc : c ≠ 35 := by
        intro e; rw [e] at hb; revert hb; decide
      have e : skp false ((c :: r).map bch) = skp false (r.map bch) + 1 := by
        rw [List.map_cons]
        show (if bch c = 35 then _ else _) = _
        rw [if_neg (fun z => hc ((ch_hash c).mp z)), if_pos (by rw [ch_bl]; exact hb)]
      rw [e, List.map_cons, List.drop_succ_cons, show p + 1 + skp false (r.map bch) = p + (skp false (r.map bch) + 1) by omega]
    · rw [if_neg hb]
      by_cases hh : c = 35
      · subst hh
        rw [if_pos (beq_self_eq_true 35)]
        obtain ⟨g1, g2, g3⟩ := run_map ch_nl r
        have ht : (r.takeWhile fun x => x != 10).length + (r.dropWhile fun x => x != 10).length = r.length := by rw [← List.length_append, List.takeWhile_append_dropWhile]
        rw [tokens_go whole k n _ (p + 1 + (r.takeWhile fun x => x != 10).length) (by omega) (by omega) (by omega)]
        have e : skp false ((35 :: r).map bch) = 1 + (r.takeWhile fun x => x != 10).length + skp false ((r.dropWhile fun x => x != 10).map bch) := by
          rw [List.map_cons]
          show skp true (r.map bch) + 1 = _
          rw [skp_true, g3, ← g3, g2, g3]; omega
        rw [e]
        congr 2
        · rw [List.map_cons, Nat.add_assoc, Nat.add_comm 1, List.drop_succ_cons, ← List.drop_drop, ← g3, g2]
        · omega
      · rw [if_neg (by simpa using hh)]
        have hs : skp false ((c :: r).map bch) = 0 := by
          rw [List.map_cons]
          show (if bch c = 35 then _ else _) = _
          rw [if_neg (fun z => hh ((ch_hash c).mp z)), if_neg (by rw [ch_bl]; exact hb)]
        rw [hs, List.drop_zero]
        obtain ⟨n, rfl⟩ : ∃ n', n = n' + 1 := ⟨n - 1, by omega⟩
        have hp' : whole - (r.length + 1) = p := by omega
        rw [hp']
        have et : toks (n + 1) ((c :: r).map bch) p = ⟨sortT (((c :: r).map bch).take (tokLen ((c :: r).map bch))), ((c :: r).map bch).take (tokLen ((c :: r).map bch)), p⟩ :: toks n ((((c :: r).map bch).drop (tokLen ((c :: r).map bch))).drop (skp false (((c :: r).map bch).drop (tokLen ((c :: r).map bch))))) (p + tokLen ((c :: r).map bch) + skp false (((c :: r).map bch).drop (tokLen ((c :: r).map bch)))) := rfl
        rw [show p + 0 = p from rfl, et]
        by_cases hw : small c = true
        · obtain ⟨t1, t2, t3⟩ := tok_word (r := r) hw
          rw [t1, t2, t3, if_pos hw]
          have hl : (r.takeWhile inner).length + (r.dropWhile inner).length = r.length := by rw [← List.length_append, List.takeWhile_append_dropWhile]
          have hL : inS letS c = true := by
            rw [inS_let]; unfold small at hw; simpa using hw
          have es : sortT (c :: r.takeWhile inner) = if (c :: r.takeWhile inner).length ≤ 12 then tW else tM := if_pos hL
          rw [es]
          by_cases h12 : (c :: r.takeWhile inner).length ≤ 12
          · rw [if_neg (show ¬ VauowBase.WORD < _ by show ¬ 12 < _; omega), if_pos h12, tokens_go whole k n _ (p + ((r.takeWhile inner).length + 1)) (by omega) (by omega) (by omega)]
            rfl
          · rw [if_pos (show VauowBase.WORD < _ by show 12 < _; omega), if_neg h12]
            rfl
        · rw [if_neg hw]
          have hL : inS letS c = false := by
            refine Bool.eq_false_iff.mpr fun z => hw ?_
            rw [inS_let] at z; unfold small; simpa using z
          by_cases hd : digit c = true
          · obtain ⟨t1, t2, t3⟩ := tok_dig (r := r) hd
            rw [t1, t2, t3, if_pos hd]
            have hl : (r.takeWhile digit).length + (r.dropWhile digit).length = r.length := by rw [← List.length_append, List.takeWhile_append_dropWhile]
            have hD : inS digS c = true := by
              rw [inS_dig]; unfold digit at hd; simpa using hd
            have es : sortT (c :: r.takeWhile digit) = if isNum (c :: r.takeWhile digit) then tN else tM := (if_neg (by rw [hL]; decide)).trans (if_pos hD)
            rw [es, good_eq _ (List.cons_ne_nil _ _)]
            by_cases hg : goodNumber (c :: r.takeWhile digit) = true
            · rw [if_pos hg, if_pos hg, tokens_go whole k n _ (p + ((r.takeWhile digit).length + 1)) (by omega) (by omega) (by omega)]
              rfl
            · rw [if_neg hg, if_neg hg]
              rfl
          · rw [if_neg hd]
            have hw' : small c = false := Bool.eq_false_iff.mpr hw
            have hd' : digit c = false := Bool.eq_false_iff.mpr hd
            obtain ⟨t1, t2, t3⟩ := tok_one (r := r) hw' hd'
            rw [t1, t2, t3]
            have es : sortT [bch c] = if inS sgnS (bch c) then tS else tX := (if_neg (by rw [ch_let, hw']; decide)).trans (if_neg (by rw [ch_dig, hd']; decide))
            rw [es, ch_sgn]
            by_cases hg : VauowBase.signs.contains c = true
            · rw [if_pos hg, if_pos hg, tokens_go whole k n _ (p + 1) (by omega) (by omega) (by omega)]
              have ec : bch c = c := by
                have z := (ch_sgn c).trans hg
                rcases ch_cases c with ⟨h1, _⟩ | ⟨h1, _⟩ | ⟨h1, _⟩
                · exact h1
                · rw [h1] at z; cases z
                · rw [h1] at z; cases z
              rw [ec]; rfl
            · rw [if_neg hg, if_neg hg]
              rfl
theorem tokens_eq (l : List Nat) : VauowBase.tokens l = specT (tokensM (l.map bch)) := by
  unfold VauowBase.tokens tokensM
  rw [tokens_go l.length (l.length + 1) (l.length + 1) l 0 (by omega) (by omega) (by omega), List.length_map, Nat.zero_add]
end Tw
namespace Tw
open PySem PySem.Spec PyProof.Rows L2

variable {P : Program} {w : World} {K : PySem.W.Frag} {mg : Str → Option Value} {base : Heap} {ad : Ads}
/-! ### the error -/
def ffX (k p : Int) : HO := .xd [("place", .int p), ("kind", .int k)]
abbrev s_FirstFault_init : Stmt := inClass (top 82) 0
theorem sc_FirstFault_init : FnScope ["self", "kind", "place"] ["self", "kind", "place"] (defScope s_FirstFault_init) := ⟨rfl, rfl, rfl, by decide +kernel, rfl, by decide +kernel, by decide +kernel⟩
def sp_FirstFault_init (C : Addr) : Sp := fun vs H Q _ => ∃ (a : Addr) (k p : Int), vs = [.ref a, .int k, .int p] ∧ H a = some (exo a C none) ∧
  ∀ d, H d = none → d ≠ a → Q .non (upd (upd (upd H d (exd d [("kind", .int k)])) a (exo a C (some d))) d (exd d [("place", .int p), ("kind", .int k)]))
theorem ok_FirstFault_init {f : Addr} {fd : FuncData} (T : Tp K mg ad) (F : Fun K "__init__" "FirstFault.__init__" s_FirstFault_init f fd) : FnOk P w K mg base CX0 1 f fd ["self", "kind", "place"] (sp_FirstFault_init ad.FirstFault) := by
  refine F.ok sc_FirstFault_init (fun vs H Q E h => ?_) (fun cdv A outer s H vs Q E hr h => ⟨_, (pss_cons (ps_est (pv 0) (pv 1)) (pss_one (ps_est (pv 0) (pv 2)))), ?_⟩)
  · obtain ⟨a, k, p, rfl, _⟩ := h
    rfl
  obtain ⟨a, k, p, rfl, ha, q⟩ := h
  refine ⟨_, rfl, _, rfl, a, ad.FirstFault, rfl, T.e_FirstFault, T.n_FirstFault_kind, .inl ⟨ha, fun d hd hne => ?_⟩⟩
  refine ⟨_, rfl, _, rfl, a, ad.FirstFault, rfl, T.e_FirstFault, T.n_FirstFault_place, .inr ⟨d, _, upd_same, (upd_ne hne).trans upd_same, Nat.le_of_ble_eq_true rfl, ?_⟩⟩
  exact q d hd hne
/-- a raise of it: what the raise asks, behind its arguments -/
theorem ff_raise {C : Addr} {H1 : Hp} {k p : Int} {Q : XK} (h : ∀ d H2, Same H1 H2 → H2 d = some (ffX k p) → Q (.ref C) (some d) H2) :
    ∀ a, H1 a = none → sp_FirstFault_init C (.ref a :: ([V.int k, V.int p] ++ [])) (upd H1 a (exo a C none))
      (fun v H2 => v = .non ∧ ∃ (d : Addr) (fs : List (Str × V)), H2 a = some (exo a C (some d)) ∧ H2 d = some (exd d fs) ∧ H1 d = none ∧ Q (.ref C) (some d) (upd (del H2 a) d (.xd fs))) (fun _ _ _ => False) := by
  refine fun a ha => ⟨a, k, p, rfl, upd_same, fun d hd hne => ?_⟩
  have hd1 : H1 d = none := by rw [upd_ne hne] at hd; exact hd
  refine ⟨rfl, d, _, (upd_ne (Ne.symm hne)).trans upd_same, upd_same, hd1, h d _ (fun b o e => ?_) upd_same⟩
  have n1 : b ≠ d := ne_of_none e hd1
  have n2 : b ≠ a := ne_of_none e ha
  rw [upd_ne n1, del_ne n2, upd_ne n1, upd_ne n2, upd_ne n1, upd_ne n2]
  exact e
/-! ### the reader: what it holds -/
def rdF (tl : Addr) (pos : Nat) (sl rl : Addr) : List (Str × V) := [("tokens", .ref tl), ("position", .int pos), ("schema", .ref sl), ("references", .ref rl)]
structure RdrAt (ad : Ads) (H : Hp) (a tl sl rl : Addr) (pos : Nat) : Prop where
  ex : ∃ dx, H a = some (.ins ad.SchemaReader dx (rdF tl pos sl rl))
structure TokL (H : Hp) (tl : Addr) (ts : List Tk) : Prop where
  ex : ∃ ws, H tl = some (.lst ws) ∧ Paired (TokR H) ws ts
/-- all that was tracked stands, but what stands at these addresses -/
def Kp (as : List Addr) (H H' : Hp) : Prop := ∀ b o, b ∉ as → H b = some o → H' b = some o
theorem Kp.refl (as : List Addr) (H : Hp) : Kp as H H := fun _ _ _ h => h
theorem Kp.trans {as : List Addr} {H H1 H2 : Hp} (a : Kp as H H1) (b : Kp as H1 H2) : Kp as H H2 := fun c o n h => b c o n (a c o n h)
theorem Kp.of_same {as : List Addr} {H H1 : Hp} (a : Same H H1) : Kp as H H1 := fun c o _ h => a c o h
theorem Kp.wider {as bs : List Addr} {H H1 : Hp} (a : Kp as H H1) (h : ∀ x ∈ as, x ∈ bs) : Kp bs H H1 := fun c o n e => a c o (fun m => n (h c m)) e
theorem Kp.upd {as : List Addr} {H : Hp} {a : Addr} {o : HO} (h : a ∈ as) : Kp as H (upd H a o) := fun c u n e => by
  rw [upd_ne (fun z => n (by rw [z]; exact h))]; exact e
theorem paired_get {α β : Type} {R : α → β → Prop} : ∀ {l : List α} {m : List β}, Paired R l m → ∀ {i : Nat} {y : β}, m[i]? = some y → ∃ x, l[i]? = some x ∧ R x y
  | _, _, .nil, i, y, h => by simp at h
  | _, _, .cons hab r, 0, y, h => by
    obtain rfl := Option.some.inj h
    exact ⟨_, rfl, hab⟩
  | _, _, .cons hab r, i + 1, y, h => paired_get r (i := i) (by simpa using h)
theorem paired_get' {α β : Type} {R : α → β → Prop} : ∀ {l : List α} {m : List β}, Paired R l m → ∀ {i : Nat} {x : α}, l[i]? = some x → ∃ y, m[i]? = some y ∧ R x y
  | _, _, .nil, i, y, h => by simp at h
  | _, _, .cons hab r, 0, y, h => by
    obtain rfl := Option.some.inj h
    exact ⟨_, rfl, hab⟩
  | _, _, .cons hab r, i + 1, y, h => paired_get' r (i := i) (by simpa using h)
theorem TokR.kp {as : List Addr} {H H' : Hp} (k : Kp as H H') (n : ∀ a ∈ as, ∀ xs, H a ≠ some (.tup xs)) {v : V} {t : Tk} (h : TokR H v t) : TokR H' v t := by
  obtain ⟨a, rfl, h⟩ := h
  exact ⟨a, rfl, k a _ (fun m => n a m _ h) h⟩
theorem TokL.kp {as : List Addr} {H H' : Hp} {tl : Addr} {ts : List Tk} (k : Kp as H H') (n : ∀ a ∈ as, ∀ xs, H a ≠ some (.tup xs)) (hn : tl ∉ as) (h : TokL H tl ts) : TokL H' tl ts := by
  obtain ⟨ws, h1, h2⟩ := h.ex
  exact ⟨ws, k tl _ hn h1, Paired.mono (fun v t => TokR.kp k n) h2⟩
/-- what tokens_of gives -/
structure WfT (ts : List Tk) : Prop where
  each : ∀ i t, ts[i]? = some t → i + 1 < ts.length → isTok t.txt ∧ t.sort = sortT t.txt
  last : ∃ p, ts[ts.length - 1]? = some ⟨tE, [], p⟩
  pos : 0 < ts.length
/-- the token at a place -/
def RdT (ad : Ads) (H : Hp) (a tl sl rl : Addr) (ts : List Tk) (pos : Nat) (t : Tk) : Prop := RdrAt ad H a tl sl rl pos ∧ TokL H tl ts ∧ ts[pos]? = some t
/-! ### sort_here, token_here, place_here -/
abbrev s_SchemaReader_sort_here : Stmt := inClass (top 85) 1
theorem sc_SchemaReader_sort_here : FnScope ["self"] ["self"] (defScope s_SchemaReader_sort_here) := ⟨rfl, rfl, rfl, by decide +kernel, rfl, by decide +kernel, by decide +kernel⟩
abbrev s_SchemaReader_token_here : Stmt := inClass (top 85) 2
theorem sc_SchemaReader_token_here : FnScope ["self"] ["self"] (defScope s_SchemaReader_token_here) := ⟨rfl, rfl, rfl, by decide +kernel, rfl, by decide +kernel, by decide +kernel⟩
abbrev s_SchemaReader_place_here : Stmt := inClass (top 85) 3
theorem sc_SchemaReader_place_here : FnScope ["self"] ["self"] (defScope s_SchemaReader_place_here) := ⟨rfl, rfl, rfl, by decide +kernel, rfl, by decide +kernel, by decide +kernel⟩
def sp_here (ad : Ads) (g : Tk → V) : Sp := fun vs H Q _ => ∃ (a tl sl rl : Addr) (ts : List Tk) (pos : Nat) (t : Tk), vs = [.ref a] ∧ RdT ad H a tl sl rl ts pos t ∧ Q (g t) H
theorem ok_sort_here {f : Addr} {fd : FuncData} (T : Tp K mg ad) (F : Fun K "sort_here" "SchemaReader.sort_here" s_SchemaReader_sort_here f fd) : FnOk P w K mg base CX0 1 f fd ["self"] (sp_here ad fun t => .str (Tw.T t.sort)) := by
  refine F.ok sc_SchemaReader_sort_here (fun vs H Q E h => ?_) (fun cdv A outer s H vs Q E hr h => ⟨_, (pss_one (ps_ret (pe_ix ix_tup (pe_ix ix_list (pe_fl T.cl_SchemaReader T.n_SchemaReader_tokens (pv 0)) (pe_fl T.cl_SchemaReader T.n_SchemaReader_position (pv 0)) (fun _ _ => rfl)) pe_int (fun _ _ => rfl)))), ?_⟩)
  · obtain ⟨a, tl, sl, rl, ts, pos, t, rfl, _⟩ := h
    rfl
  obtain ⟨a, tl, sl, rl, ts, pos, t, rfl, ⟨⟨dx, h1⟩, ⟨ws, h2, pr⟩, h3⟩, k⟩ := h
  obtain ⟨v, h4, b, rfl, h5⟩ := paired_get pr h3
  walk_at "rd"
  exact k
theorem ok_token_here {f : Addr} {fd : FuncData} (T : Tp K mg ad) (F : Fun K "token_here" "SchemaReader.token_here" s_SchemaReader_token_here f fd) : FnOk P w K mg base CX0 1 f fd ["self"] (sp_here ad fun t => .str (Tw.T t.txt)) := by
  refine F.ok sc_SchemaReader_token_here (fun vs H Q E h => ?_) (fun cdv A outer s H vs Q E hr h => ⟨_, (pss_one (ps_ret (pe_ix ix_tup (pe_ix ix_list (pe_fl T.cl_SchemaReader T.n_SchemaReader_tokens (pv 0)) (pe_fl T.cl_SchemaReader T.n_SchemaReader_position (pv 0)) (fun _ _ => rfl)) pe_int (fun _ _ => rfl)))), ?_⟩)
  · obtain ⟨a, tl, sl, rl, ts, pos, t, rfl, _⟩ := h
    rfl
  obtain ⟨a, tl, sl, rl, ts, pos, t, rfl, ⟨⟨dx, h1⟩, ⟨ws, h2, pr⟩, h3⟩, k⟩ := h
  obtain ⟨v, h4, b, rfl, h5⟩ := paired_get pr h3
  walk_at "rd"
  exact k
theorem ok_place_here {f : Addr} {fd : FuncData} (T : Tp K mg ad) (F : Fun K "place_here" "SchemaReader.place_here" s_SchemaReader_place_here f fd) : FnOk P w K mg base CX0 1 f fd ["self"] (sp_here ad fun t => .int t.pl) := by
  refine F.ok sc_SchemaReader_place_here (fun vs H Q E h => ?_) (fun cdv A outer s H vs Q E hr h => ⟨_, (pss_one (ps_ret (pe_ix ix_tup (pe_ix ix_list (pe_fl T.cl_SchemaReader T.n_SchemaReader_tokens (pv 0)) (pe_fl T.cl_SchemaReader T.n_SchemaReader_position (pv 0)) (fun _ _ => rfl)) pe_int (fun _ _ => rfl)))), ?_⟩)
  · obtain ⟨a, tl, sl, rl, ts, pos, t, rfl, _⟩ := h
    rfl
  obtain ⟨a, tl, sl, rl, ts, pos, t, rfl, ⟨⟨dx, h1⟩, ⟨ws, h2, pr⟩, h3⟩, k⟩ := h
  obtain ⟨v, h4, b, rfl, h5⟩ := paired_get pr h3
  walk_at "rd"
  exact k
/-! ### fault_of, refuse_token -/
def faultT (s : List Nat) : Int := if s = tX then 1 else if s = tM then 2 else if s = tE then 4 else 3
abbrev s_fault_of : Stmt := top 84
theorem sc_fault_of : FnScope ["sort"] ["sort"] (defScope s_fault_of) := ⟨rfl, rfl, rfl, by decide +kernel, rfl, by decide +kernel, by decide +kernel⟩
def sp_fault_of : Sp := fun vs H Q _ => ∃ (s : List Nat), vs = [.str (T s)] ∧ Q (.int (faultT s)) H
theorem strE {a b : List Nat} : (V.str (T a) = V.str (T b)) ↔ a = b := ⟨fun h => T_inj (by injection h), fun h => by rw [h]⟩
theorem ok_fault_of {f : Addr} {fd : FuncData} (T : Tp K mg ad) (F : Fun K "fault_of" "fault_of" s_fault_of f fd) : FnOk P w K mg base CX0 1 f fd ["sort"] sp_fault_of := by
  refine F.ok sc_fault_of (fun vs H Q E h => ?_) (fun cdv A outer s H vs Q E hr h => ⟨_, (pss_cons (ps_if (pt_cmpR op_eq (pv 0) (pe_cst (by rfl) T.k_STRAY) (nomark _)) (pss_one (ps_ret (pe_cst (by rfl) T.k_NO_TOKEN))) pss_nil) (pss_cons (ps_if (pt_cmpR op_eq (pv 0) (pe_cst (by rfl) T.k_MALFORMED) (nomark _)) (pss_one (ps_ret (pe_cst (by rfl) T.k_NOT_AS_TOLD))) pss_nil) (pss_cons (ps_if (pt_cmpR op_eq (pv 0) (pe_cst (by rfl) T.k_END) (nomark _)) (pss_one (ps_ret (pe_cst (by rfl) T.k_ENDS_EARLY))) pss_nil) (pss_one (ps_ret (pe_cst (by rfl) T.k_CANNOT_STAND)))))), ?_⟩)
  · obtain ⟨z, rfl, _⟩ := h
    rfl
  obtain ⟨z, rfl, k⟩ := h
  unfold faultT at k
  walk_at "rd"
  refine ifd (fun h1 => ?_) (fun h1 => ?_)
  · rw [if_pos (strE.mp h1)] at k
    exact k
  rw [if_neg (fun e => h1 (strE.mpr e))] at k
  walk_at "rd"
  refine ifd (fun h2 => ?_) (fun h2 => ?_)
  · rw [if_pos (strE.mp h2)] at k
    exact k
  rw [if_neg (fun e => h2 (strE.mpr e))] at k
  walk_at "rd"
  refine ifd (fun h3 => ?_) (fun h3 => ?_)
  · rw [if_pos (strE.mp h3)] at k
    exact k
  rw [if_neg (fun e => h3 (strE.mpr e))] at k
  exact k
/-- what is raised, and that all that stood stands but at as -/
def Rz (ad : Ads) (as : List Addr) (H : Hp) (E : XK) (k p : Int) : Prop := ∀ d H', Kp as H H' → H' d = some (ffX k p) → E (.ref ad.FirstFault) (some d) H'
theorem Rz.kp {as : List Addr} {H H1 : Hp} {E : XK} {k p : Int} (h : Rz ad as H E k p) (s : Kp as H H1) : Rz ad as H1 E k p := fun d H' s' e => h d H' (s.trans s') e
abbrev s_SchemaReader_refuse_token : Stmt := inClass (top 85) 4
theorem sc_SchemaReader_refuse_token : FnScope ["self"] ["self"] (defScope s_SchemaReader_refuse_token) := ⟨rfl, rfl, rfl, by decide +kernel, rfl, by decide +kernel, by decide +kernel⟩
def sp_refuse (ad : Ads) : Sp := fun vs H _ E => ∃ (a tl sl rl : Addr) (ts : List Tk) (pos : Nat) (t : Tk), vs = [.ref a] ∧ RdT ad H a tl sl rl ts pos t ∧ Rz ad [] H E (faultT t.sort) t.pl
theorem ok_refuse {f : Addr} {fd : FuncData} (T : Tp K mg ad) (c_fault_of : Fc P w K mg base CX0 1 "fault_of" ["sort"] sp_fault_of)
    (m_SchemaReader_sort_here : Mc P w K mg base CX0 1 ad.SchemaReader "sort_here" ["self"] (sp_here ad fun t => .str (Tw.T t.sort)))
    (m_SchemaReader_place_here : Mc P w K mg base CX0 1 ad.SchemaReader "place_here" ["self"] (sp_here ad fun t => .int t.pl))
    (x_FirstFault : Xc P w K mg base 1 ad.FirstFault ["self", "kind", "place"] (sp_FirstFault_init ad.FirstFault)) (F : Fun K "refuse_token" "SchemaReader.refuse_token" s_SchemaReader_refuse_token f fd) : FnOk P w K mg base (L2.CX P w) 3 f fd ["self"] (sp_refuse ad) := by
  refine F.okX sc_SchemaReader_refuse_token (fun vs H Q E h => ?_) (fun cdv A outer s H vs Q E hr h => ⟨_, (pss_one (ps_raise rfl (takes_of rfl rfl rfl rfl) (pmk_x T.e_FirstFault x_FirstFault (hr.mono (by decide)) T.g_FirstFault (pa_cons (pe_fc c_fault_of (hr.mono (by decide)) (by rfl) (pa_cons (pe_mc0 (pv 0) T.cl_SchemaReader m_SchemaReader_sort_here (hr.mono (by decide)) pass0) pa_nil)) (pa_cons (pe_mc0 (pv 0) T.cl_SchemaReader m_SchemaReader_place_here (hr.mono (by decide)) pass0) pa_nil))))), ?_⟩)
  · obtain ⟨a, tl, sl, rl, ts, pos, t, rfl, _⟩ := h
    rfl
  obtain ⟨a, tl, sl, rl, ts, pos, t, rfl, rt, k⟩ := h
  obtain ⟨dx, h1⟩ := rt.1.ex
  walk_at "rd"
  exact ff_raise fun d H2 s2 h2 => k d H2 (Kp.of_same s2) h2
/-! ### take_any, take_if, take, take_name -/
theorem RdT.next {H H' : Hp} {a tl sl rl : Addr} {ts : List Tk} {pos : Nat} {t : Tk} (h : RdT ad H a tl sl rl ts pos t) (k : Kp [a] H H') : TokL H' tl ts := by
  obtain ⟨⟨dx, h1⟩, h2, h3⟩ := h
  refine TokL.kp k (fun b hb xs e => ?_) ?_ h2
  · obtain rfl := List.mem_singleton.mp hb
    rw [h1] at e; cases e
  · obtain ⟨ws, h4, _⟩ := h2.ex
    intro m
    obtain rfl := List.mem_singleton.mp m
    rw [h1] at h4; cases h4
/-- the reader has gone on -/
def OnR (ad : Ads) (a tl sl rl : Addr) (ts : List Tk) (pos : Nat) (H H' : Hp) : Prop := RdrAt ad H' a tl sl rl pos ∧ TokL H' tl ts ∧ Kp [a] H H'
theorem onR {H : Hp} {a tl sl rl : Addr} {ts : List Tk} {pos : Nat} {t : Tk} {dx : Addr} {n : Nat} (h : RdT ad H a tl sl rl ts pos t) : OnR ad a tl sl rl ts n H (upd H a (.ins ad.SchemaReader dx (rdF tl n sl rl))) :=
  ⟨⟨_, upd_same⟩, h.next (Kp.upd (by simp)), Kp.upd (by simp)⟩
abbrev s_SchemaReader_take_any : Stmt := inClass (top 85) 5
theorem sc_SchemaReader_take_any : FnScope ["self", "token"] ["self"] (defScope s_SchemaReader_take_any) := ⟨rfl, rfl, rfl, by decide +kernel, rfl, by decide +kernel, by decide +kernel⟩
def sp_take_any (ad : Ads) : Sp := fun vs H Q _ => ∃ (a tl sl rl : Addr) (ts : List Tk) (pos : Nat) (t : Tk), vs = [.ref a] ∧ RdT ad H a tl sl rl ts pos t ∧ ∀ H', OnR ad a tl sl rl ts (pos + 1) H H' → Q (.str (T t.txt)) H'
theorem ok_take_any {f : Addr} {fd : FuncData} (T : Tp K mg ad) (m_SchemaReader_token_here : Mc P w K mg base CX0 1 ad.SchemaReader "token_here" ["self"] (sp_here ad fun t => .str (Tw.T t.txt)))
    (F : Fun K "take_any" "SchemaReader.take_any" s_SchemaReader_take_any f fd) : FnOk P w K mg base CX0 2 f fd ["self"] (sp_take_any ad) := by
  refine F.ok sc_SchemaReader_take_any (fun vs H Q E h => ?_) (fun cdv A outer s H vs Q E hr h => ⟨_, (pss_cons (ps_set (i := 1) sc_SchemaReader_take_any.nd rfl (.inl rfl) (pe_mc0 (pv 0) T.cl_SchemaReader m_SchemaReader_token_here (hr.mono (by decide)) pass0)) (pss_cons (ps_flAdd T.cl_SchemaReader T.n_SchemaReader_position (pv 0) pe_int) (pss_one (ps_ret (pv 1))))), ?_⟩)
  · obtain ⟨a, tl, sl, rl, ts, pos, t, rfl, _⟩ := h
    rfl
  obtain ⟨a, tl, sl, rl, ts, pos, t, rfl, rt, k⟩ := h
  obtain ⟨dx, h1⟩ := rt.1.ex
  walk_at "rd"
  rintro _ rfl
  walk_at "rd"
  exact k _ (onR rt)
abbrev s_SchemaReader_take_if : Stmt := inClass (top 85) 7
theorem sc_SchemaReader_take_if : FnScope ["self", "wanted"] ["self", "wanted"] (defScope s_SchemaReader_take_if) := ⟨rfl, rfl, rfl, by decide +kernel, rfl, by decide +kernel, by decide +kernel⟩
def sp_take_if (ad : Ads) : Sp := fun vs H Q _ => ∃ (a tl sl rl : Addr) (ts : List Tk) (pos : Nat) (t : Tk) (x : List Nat), vs = [.ref a, .str (T x)] ∧ RdT ad H a tl sl rl ts pos t ∧ (t.txt = x → ∀ H', OnR ad a tl sl rl ts (pos + 1) H H' → Q (.bl true) H') ∧ (t.txt ≠ x → Q (.bl false) H)
theorem ok_take_if {f : Addr} {fd : FuncData} (T : Tp K mg ad) (m_SchemaReader_token_here : Mc P w K mg base CX0 1 ad.SchemaReader "token_here" ["self"] (sp_here ad fun t => .str (Tw.T t.txt)))
    (F : Fun K "take_if" "SchemaReader.take_if" s_SchemaReader_take_if f fd) : FnOk P w K mg base CX0 2 f fd ["self", "wanted"] (sp_take_if ad) := by
  refine F.ok sc_SchemaReader_take_if (fun vs H Q E h => ?_) (fun cdv A outer s H vs Q E hr h => ⟨_, (pss_cons (ps_if (pt_cmpR op_ne (pe_mc0 (pv 0) T.cl_SchemaReader m_SchemaReader_token_here (hr.mono (by decide)) pass0) (pv 1) (nomark _)) (pss_one (ps_ret pe_bl)) pss_nil) (pss_cons (ps_flAdd T.cl_SchemaReader T.n_SchemaReader_position (pv 0) pe_int) (pss_one (ps_ret pe_bl)))), ?_⟩)
  · obtain ⟨a, tl, sl, rl, ts, pos, t, x, rfl, _⟩ := h
    rfl
  obtain ⟨a, tl, sl, rl, ts, pos, t, x, rfl, rt, k1, k2⟩ := h
  obtain ⟨dx, h1⟩ := rt.1.ex
  walk_at "rd"
  refine ifnd (fun h2 => ?_) (fun h2 => ?_)
  · exact k2 fun e => h2 (strE.mpr e)
  · have k1 := k1 (strE.mp h2)
    walk_at "rd"
    rintro _ rfl
    walk_at "rd"
    exact k1 _ (onR rt)
abbrev s_SchemaReader_take : Stmt := inClass (top 85) 6
theorem sc_SchemaReader_take : FnScope ["self", "wanted"] ["self", "wanted"] (defScope s_SchemaReader_take) := ⟨rfl, rfl, rfl, by decide +kernel, rfl, by decide +kernel, by decide +kernel⟩
def sp_take (ad : Ads) : Sp := fun vs H Q E => ∃ (a tl sl rl : Addr) (ts : List Tk) (pos : Nat) (t : Tk) (x : List Nat), vs = [.ref a, .str (T x)] ∧ RdT ad H a tl sl rl ts pos t ∧ (t.txt = x → ∀ H', OnR ad a tl sl rl ts (pos + 1) H H' → Q .non H') ∧ (t.txt ≠ x → Rz ad [] H E (faultT t.sort) t.pl)
theorem ok_take {f : Addr} {fd : FuncData} (T : Tp K mg ad) (m_SchemaReader_take_if : Mc P w K mg base CX0 2 ad.SchemaReader "take_if" ["self", "wanted"] (sp_take_if ad))
    (m_SchemaReader_refuse_token : Mc P w K mg base (L2.CX P w) 3 ad.SchemaReader "refuse_token" ["self"] (sp_refuse ad))
    (F : Fun K "take" "SchemaReader.take" s_SchemaReader_take f fd) : FnOk P w K mg base (L2.CX P w) 4 f fd ["self", "wanted"] (sp_take ad) := by
  refine F.okX sc_SchemaReader_take (fun vs H Q E h => ?_) (fun cdv A outer s H vs Q E hr h => ⟨_, (pss_one (ps_if (pt_not (pt_val (pe_mc (pv 0) T.cl_SchemaReader m_SchemaReader_take_if (hr.mono (by decide)) pass0 (pa_cons (pv 1) pa_nil)))) (pss_one (ps_expr (pe_mc0 (pv 0) T.cl_SchemaReader m_SchemaReader_refuse_token (hr.mono (by decide)) (passes_call (takes_of rfl rfl rfl rfl) (fun _ _ _ _ h => h))))) pss_nil)), ?_⟩)
  · obtain ⟨a, tl, sl, rl, ts, pos, t, x, rfl, _⟩ := h
    rfl
  obtain ⟨a, tl, sl, rl, ts, pos, t, x, rfl, rt, k1, k2⟩ := h
  obtain ⟨dx, h1⟩ := rt.1.ex
  walk_at "rd"
  refine ⟨fun e H2 o => ⟨_, rfl, iteF (k1 e H2 o)⟩, fun e => ⟨_, rfl, iteT ?_⟩⟩
  have k2 := k2 e
  walk_at "rd"
  exact k2
abbrev resv : List (List Nat) := VauowBase.reserved
theorem inV_strs (x : List Nat) : ∀ l : List (List Nat), inV (.str (T x)) (l.map fun y => V.str (T y)) = l.contains x
  | [] => rfl
  | y :: r => by
    have ih := inV_strs x r
    show (eqV (.str (T y)) (.str (T x)) || inV (.str (T x)) (r.map fun y => V.str (T y))) = _
    rw [ih, List.contains_cons]
    congr 1
    refine beq_nat ?_
    show (T y == T x) = true ↔ (x == y) = true
    rw [beq_iff_eq, beq_iff_eq]
    exact ⟨fun h => (T_inj h).symm, fun h => by rw [h]⟩
def isName (t : Tk) : Prop := t.sort = tW ∧ resv.contains t.txt = false
abbrev s_SchemaReader_take_name : Stmt := inClass (top 85) 8
theorem sc_SchemaReader_take_name : FnScope ["self"] ["self"] (defScope s_SchemaReader_take_name) := ⟨rfl, rfl, rfl, by decide +kernel, rfl, by decide +kernel, by decide +kernel⟩
def sp_take_name (ad : Ads) : Sp := fun vs H Q E => ∃ (a tl sl rl : Addr) (ts : List Tk) (pos : Nat) (t : Tk), vs = [.ref a] ∧ RdT ad H a tl sl rl ts pos t ∧ (isName t → ∀ H', OnR ad a tl sl rl ts (pos + 1) H H' → Q (.str (T t.txt)) H') ∧ (¬ isName t → Rz ad [] H E (faultT t.sort) t.pl)
theorem ok_take_name {f : Addr} {fd : FuncData} (T : Tp K mg ad)
    (m_SchemaReader_sort_here : Mc P w K mg base CX0 1 ad.SchemaReader "sort_here" ["self"] (sp_here ad fun t => .str (Tw.T t.sort)))
    (m_SchemaReader_token_here : Mc P w K mg base CX0 1 ad.SchemaReader "token_here" ["self"] (sp_here ad fun t => .str (Tw.T t.txt)))
    (m_SchemaReader_take_any : Mc P w K mg base CX0 2 ad.SchemaReader "take_any" ["self"] (sp_take_any ad))
    (m_SchemaReader_refuse_token : Mc P w K mg base (L2.CX P w) 3 ad.SchemaReader "refuse_token" ["self"] (sp_refuse ad))
    (F : Fun K "take_name" "SchemaReader.take_name" s_SchemaReader_take_name f fd) : FnOk P w K mg base (L2.CX P w) 4 f fd ["self"] (sp_take_name ad) := by
  refine F.okX sc_SchemaReader_take_name (fun vs H Q E h => ?_) (fun cdv A outer s H vs Q E hr h => ⟨_, (pss_cons (ps_if (PW.pt (pw_or (pt_cmpR op_ne (pe_mc0 (pv 0) T.cl_SchemaReader m_SchemaReader_sort_here (hr.mono (by decide)) pass0) (pe_cst (by rfl) T.k_WORD) (nomark _)) (pw_or1 (pt_cmpR op_in_seq (pe_mc0 (pv 0) T.cl_SchemaReader m_SchemaReader_token_here (hr.mono (by decide)) pass0) (pe_cst (by rfl) T.k_NO_NAMES) (by rfl))))) (pss_one (ps_expr (pe_mc0 (pv 0) T.cl_SchemaReader m_SchemaReader_refuse_token (hr.mono (by decide)) (passes_call (takes_of rfl rfl rfl rfl) (fun _ _ _ _ h => h))))) pss_nil) (pss_one (ps_ret (pe_mc0 (pv 0) T.cl_SchemaReader m_SchemaReader_take_any (hr.mono (by decide)) pass0)))), ?_⟩)
  · obtain ⟨a, tl, sl, rl, ts, pos, t, rfl, _⟩ := h
    rfl
  obtain ⟨a, tl, sl, rl, ts, pos, t, rfl, rt, k1, k2⟩ := h
  obtain ⟨dx, h1⟩ := rt.1.ex
  have hN : SqT K H ad.NO_NAMES (resv.map fun y => V.str (Tw.T y)) := T.t_NO_NAMES H
  walk_at "rd"
  refine ifnd (fun h2 => ?_) (fun h2 => ?_)
  · have k2 := k2 fun z => h2 (strE.mpr z.1)
    walk_at "rd"
    exact k2
  · have h2 : t.sort = tW := strE.mp h2
    walk_at "rd"
    refine ifb (b := inV (.str (Tw.T t.txt)) (resv.map fun y => V.str (Tw.T y))) (fun h3 => ?_) (fun h3 => ?_)
    · rw [inV_strs] at h3
      have k2 := k2 fun z => by rw [z.2] at h3; cases h3
      walk_at "rd"
      exact k2
    · rw [inV_strs] at h3
      have k1 := k1 ⟨h2, h3⟩
      walk_at "rd"
      exact k1
end Tw
local macro_rules | `(tactic| walk_at "kp") => `(tactic| repeat (first | exact Tw.Kp.refl _ _ | exact Tw.Kp.upd (by simp) | refine Tw.Kp.trans ?_ (Tw.Kp.upd (by simp))))
namespace Tw
open PySem PySem.Spec PyProof.Rows L2

variable {P : Program} {w : World} {K : PySem.W.Frag} {mg : Str → Option Value} {base : Heap} {ad : Ads}
/-! ### the tokens from a place on, as the specification has them -/
open VauowBase (Toks isWord isSign isOver faultAt readName readInt readRange readRef readKind wantWord wantSign ascii reserved)
def Sx (ts : List Tk) (pos : Nat) : Toks := specT (ts.drop pos)
theorem sx_at {ts : List Tk} {pos : Nat} {t : Tk} (h : ts[pos]? = some t) : Sx ts pos = (t.pl, tokOf t) :: (if isLast t then [] else Sx ts (pos + 1)) := by
  have hp : pos < ts.length := (List.getElem?_eq_some_iff.mp h).1
  unfold Sx
  rw [List.drop_eq_getElem_cons hp]
  obtain ⟨_, rfl⟩ := List.getElem?_eq_some_iff.mp h
  rfl
theorem sx_next {ts : List Tk} {pos : Nat} {t : Tk} (h : ts[pos]? = some t) (hl : isLast t = false) : (Sx ts pos).drop 1 = Sx ts (pos + 1) := by
  rw [sx_at h, hl]; rfl
theorem wf_ex {ts : List Tk} {pos : Nat} (h : pos < ts.length) : ∃ t, ts[pos]? = some t := ⟨ts[pos], by simp [h]⟩
/-- a token is the end, or as token_end cuts it -/
theorem wf_cases {ts : List Tk} (W : WfT ts) {pos : Nat} {t : Tk} (h : ts[pos]? = some t) : (t.sort = tE ∧ t.txt = [] ∧ pos + 1 = ts.length) ∨ (isTok t.txt ∧ t.sort = sortT t.txt ∧ pos + 1 < ts.length) := by
  have hp : pos < ts.length := (List.getElem?_eq_some_iff.mp h).1
  by_cases hq : pos + 1 < ts.length
  · obtain ⟨h1, h2⟩ := W.each pos t h hq
    exact .inr ⟨h1, h2, hq⟩
  · obtain ⟨p, h1⟩ := W.last
    rw [show ts.length - 1 = pos by omega, h] at h1
    obtain rfl := Option.some.inj h1
    exact .inl ⟨rfl, rfl, by omega⟩
theorem sortT_cases (x : List Nat) : sortT x = tX ∨ sortT x = tW ∨ sortT x = tM ∨ sortT x = tN ∨ sortT x = tS := by
  unfold sortT
  cases x with
  | nil => exact .inl rfl
  | cons c r =>
    simp only
    split
    · split
      · exact .inr (.inl rfl)
      · exact .inr (.inr (.inl rfl))
    · split
      · split
        · exact .inr (.inr (.inr (.inl rfl)))
        · exact .inr (.inr (.inl rfl))
      · split
        · exact .inr (.inr (.inr (.inr rfl)))
        · exact .inl rfl
theorem sort_cases {ts : List Tk} (W : WfT ts) {pos : Nat} {t : Tk} (h : ts[pos]? = some t) : t.sort = tE ∨ t.sort = tX ∨ t.sort = tW ∨ t.sort = tM ∨ t.sort = tN ∨ t.sort = tS := by
  rcases wf_cases W h with ⟨e, _⟩ | ⟨_, e, _⟩
  · exact .inl e
  · rw [e]; exact .inr (sortT_cases _)
theorem tok_sorts : tX ≠ tE ∧ tW ≠ tE ∧ tM ≠ tE ∧ tN ≠ tE ∧ tS ≠ tE ∧ tW ≠ tX ∧ tM ≠ tX ∧ tN ≠ tX ∧ tS ≠ tX ∧ tM ≠ tW ∧ tN ≠ tW ∧ tS ≠ tW ∧ tN ≠ tM ∧ tS ≠ tM ∧ tS ≠ tN := by decide
theorem tokOf_s (s x : List Nat) (p : Nat) : (s = tE → tokOf ⟨s, x, p⟩ = .over) ∧ (s = tX → tokOf ⟨s, x, p⟩ = .bad 1) ∧ (s = tW → tokOf ⟨s, x, p⟩ = .word x) ∧ (s = tM → tokOf ⟨s, x, p⟩ = .bad 2) ∧ (s = tN → tokOf ⟨s, x, p⟩ = .num (VauowBase.valueIn x)) ∧ (s = tS → tokOf ⟨s, x, p⟩ = .sign (x.headD 0)) := by
  refine ⟨?_, ?_, ?_, ?_, ?_, ?_⟩ <;> (intro h; subst h; rfl)
theorem isLast_s (s x : List Nat) (p : Nat) : (s = tE → isLast ⟨s, x, p⟩ = true) ∧ (s = tX → isLast ⟨s, x, p⟩ = true) ∧ (s = tW → isLast ⟨s, x, p⟩ = false) ∧ (s = tM → isLast ⟨s, x, p⟩ = true) ∧ (s = tN → isLast ⟨s, x, p⟩ = false) ∧ (s = tS → isLast ⟨s, x, p⟩ = false) := by
  refine ⟨?_, ?_, ?_, ?_, ?_, ?_⟩ <;> (intro h; subst h; rfl)
theorem faultT_s : faultT tE = 4 ∧ faultT tX = 1 ∧ faultT tW = 3 ∧ faultT tM = 2 ∧ faultT tN = 3 ∧ faultT tS = 3 := by decide
/-- the fault of the token here -/
theorem fault_at {ts : List Tk} (W : WfT ts) {pos : Nat} {t : Tk} (h : ts[pos]? = some t) : ((faultAt (Sx ts pos)).1 : Int) = faultT t.sort ∧ (faultAt (Sx ts pos)).2 = t.pl := by
  rw [sx_at h]
  obtain ⟨s, x, p⟩ := t
  obtain ⟨f1, f2, f3, f4, f5, f6⟩ := faultT_s
  obtain ⟨h1, h2, h3, h4, h5, h6⟩ := tokOf_s s x p
  rcases sort_cases W h with e | e | e | e | e | e
  · rw [h1 e]; have e : s = tE := e; rw [e, f1]; exact ⟨rfl, rfl⟩
  · rw [h2 e]; have e : s = tX := e; rw [e, f2]; exact ⟨rfl, rfl⟩
  · rw [h3 e]; have e : s = tW := e; rw [e, f3]; exact ⟨rfl, rfl⟩
  · rw [h4 e]; have e : s = tM := e; rw [e, f4]; exact ⟨rfl, rfl⟩
  · rw [h5 e]; have e : s = tN := e; rw [e, f5]; exact ⟨rfl, rfl⟩
  · rw [h6 e]; have e : s = tS := e; rw [e, f6]; exact ⟨rfl, rfl⟩
/-- a word that is wanted -/
theorem is_word {ts : List Tk} (W : WfT ts) {pos : Nat} {t : Tk} (h : ts[pos]? = some t) (wd : String) (hw : sortT (ascii wd) = tW) (hne : ascii wd ≠ []) : (isWord wd (Sx ts pos) = true ↔ t.txt = ascii wd) ∧ (t.txt = ascii wd → isLast t = false ∧ pos + 1 < ts.length) := by
  rw [sx_at h]
  obtain ⟨s, x, p⟩ := t
  obtain ⟨h1, h2, h3, h4, h5, h6⟩ := tokOf_s s x p
  obtain ⟨l1, l2, l3, l4, l5, l6⟩ := isLast_s s x p
  have key : x = ascii wd → s = tW ∧ pos + 1 < ts.length := fun e => by
    rcases wf_cases W h with ⟨_, e2, _⟩ | ⟨_, e2, e3⟩
    · exact absurd (e.symm.trans e2) hne
    · have e2 : s = sortT x := e2
      rw [e2, e]; exact ⟨hw, e3⟩
  refine ⟨⟨fun hi => ?_, fun e => ?_⟩, fun e => ⟨l3 (key e).1, (key e).2⟩⟩
  · rcases sort_cases W h with e | e | e | e | e | e
    · rw [h1 e] at hi; cases hi
    · rw [h2 e] at hi; cases hi
    · rw [h3 e] at hi; exact beq_iff_eq.mp hi
    · rw [h4 e] at hi; cases hi
    · rw [h5 e] at hi; cases hi
    · rw [h6 e] at hi; cases hi
  · rw [h3 (key e).1]
    exact beq_iff_eq.mpr e
/-- a sign that is wanted -/
theorem is_sign {ts : List Tk} (W : WfT ts) {pos : Nat} {t : Tk} (h : ts[pos]? = some t) (c : Nat) (hw : sortT [c] = tS) : (isSign c (Sx ts pos) = true ↔ t.txt = [c]) ∧ (t.txt = [c] → isLast t = false ∧ pos + 1 < ts.length) := by
  rw [sx_at h]
  obtain ⟨s, x, p⟩ := t
  obtain ⟨h1, h2, h3, h4, h5, h6⟩ := tokOf_s s x p
  obtain ⟨l1, l2, l3, l4, l5, l6⟩ := isLast_s s x p
  have key : x = [c] → s = tS ∧ pos + 1 < ts.length := fun e => by
    rcases wf_cases W h with ⟨_, e2, _⟩ | ⟨_, e2, e3⟩
    · exact absurd (e.symm.trans e2) (List.cons_ne_nil _ _)
    · have e2 : s = sortT x := e2
      rw [e2, e]; exact ⟨hw, e3⟩
  refine ⟨⟨fun hi => ?_, fun e => ?_⟩, fun e => ⟨l6 (key e).1, (key e).2⟩⟩
  · rcases sort_cases W h with e | e | e | e | e | e
    · rw [h1 e] at hi; cases hi
    · rw [h2 e] at hi; cases hi
    · rw [h3 e] at hi; cases hi
    · rw [h4 e] at hi; cases hi
    · rw [h5 e] at hi; cases hi
    · rw [h6 e] at hi
      have hi : (c == x.headD 0) = true := hi
      rw [beq_iff_eq] at hi
      rcases wf_cases W h with ⟨e2, _⟩ | ⟨⟨k1, k2, k3⟩, e2, _⟩
      · exact absurd (e2.symm.trans e) (by decide)
      · obtain ⟨d, r, hx⟩ : ∃ d r, x = d :: r := by cases hx : x with | nil => exact absurd hx k1 | cons d r => exact ⟨d, r, rfl⟩
        have hd : x.head? = some d := by rw [hx]; rfl
        have e2 : s = sortT x := e2
        rw [hx] at hi
        have hcd : c = d := hi
        have q : sortT [c] = tS := hw
        rw [hcd] at q
        have n1 : inS letS d = false := by
          refine Bool.eq_false_iff.mpr fun z => ?_
          have : sortT [d] = if [d].length ≤ 12 then tW else tM := if_pos z
          rw [this, if_pos (Nat.le_of_ble_eq_true rfl)] at q
          exact absurd q (by decide)
        have n2 : inS digS d = false := by
          refine Bool.eq_false_iff.mpr fun z => ?_
          have : sortT [d] = if isNum [d] then tN else tM := (if_neg (by rw [n1]; decide)).trans (if_pos z)
          rw [this] at q
          by_cases g : isNum [d] = true
          · rw [if_pos g] at q; exact absurd q (by decide)
          · rw [if_neg g] at q; exact absurd q (by decide)
        show x = [c]
        have k4 : x = [d] := k3 d hd n1 n2
        rw [k4, hcd]
  · rw [h6 (key e).1]
    have e : x = [c] := e
    rw [e]
    exact beq_self_eq_true c
theorem read_name {ts : List Tk} (W : WfT ts) {pos : Nat} {t : Tk} (h : ts[pos]? = some t) : (isName t → readName (Sx ts pos) = .ok ((t.pl, t.txt), Sx ts (pos + 1)) ∧ pos + 1 < ts.length) ∧ (¬ isName t → readName (Sx ts pos) = .error (faultAt (Sx ts pos))) := by
  have hs := sx_at h
  obtain ⟨s, x, p⟩ := t
  obtain ⟨h1, h2, h3, h4, h5, h6⟩ := tokOf_s s x p
  obtain ⟨l1, l2, l3, l4, l5, l6⟩ := isLast_s s x p
  refine ⟨fun ⟨e, hr⟩ => ?_, fun hn => ?_⟩
  · have hp : pos + 1 < ts.length := by
      rcases wf_cases W h with ⟨e2, _⟩ | ⟨_, _, e3⟩
      · exact absurd (e2.symm.trans e) (by decide)
      · exact e3
    rw [hs, h3 e, l3 e]
    refine ⟨?_, hp⟩
    show (if reserved.contains x = true then _ else _) = _
    rw [if_neg (by rw [show reserved.contains x = false from hr]; decide)]
    rfl
  · rcases sort_cases W h with e | e | e | e | e | e
    · rw [hs, h1 e]; rfl
    · rw [hs, h2 e]; rfl
    · rw [hs, h3 e]
      show (if reserved.contains x = true then _ else _) = _
      by_cases g : reserved.contains x = true
      · rw [if_pos g]; rfl
      · exact absurd ⟨e, Bool.eq_false_iff.mpr g⟩ hn
    · rw [hs, h4 e]; rfl
    · rw [hs, h5 e]; rfl
    · rw [hs, h6 e]; rfl
end Tw
namespace Tw
open PySem PySem.Spec PyProof.Rows L2
open VauowBase (Toks isWord isSign isOver faultAt readName readInt readRange readRef readKind wantWord wantSign ascii reserved)

variable {P : Program} {w : World} {K : PySem.W.Frag} {mg : Str → Option Value} {base : Heap} {ad : Ads}
/-! ### the objects of a schema -/
structure RC where
  name : List Nat
  lo : Int
  hi : Int
  tgt : Option Nat
  none_ : Bool
  away : List Nat
  uniq : Bool
def tgtV : Option Nat → V
  | none => .non
  | some t => .int t
def colF (c : RC) : List (Str × V) := [("name", .str (T c.name)), ("low", .int c.lo), ("high", .int c.hi), ("target", tgtV c.tgt), ("allows_none", .bl c.none_), ("removal", .str (T c.away)), ("unique", .bl c.uniq)]
structure ColAt (ad : Ads) (H : Hp) (a : Addr) (c : RC) : Prop where
  ex : ∃ dx, H a = some (.ins ad.Column dx (colF c))
def freshC (n : List Nat) : RC := ⟨n, -1000000, 1000000, none, false, [], false⟩
def tabF (n : List Nat) (cl : Addr) : List (Str × V) := [("name", .str (T n)), ("columns", .ref cl)]
abbrev s_Column_init : Stmt := inClass (top 40) 0
theorem sc_Column_init : FnScope ["self", "name"] ["self", "name"] (defScope s_Column_init) := ⟨rfl, rfl, rfl, by decide +kernel, rfl, by decide +kernel, by decide +kernel⟩
def sp_Column_init (ad : Ads) : Sp := fun vs H Q _ => ∃ (x dx : Addr) (n : List Nat), vs = [.ref x, .str (T n)] ∧ H x = some (.ins ad.Column dx []) ∧ ∀ H', ColAt ad H' x (freshC n) → Kp [x] H H' → Q .non H'
theorem ok_Column_init {f : Addr} {fd : FuncData} (T : Tp K mg ad) (F : Fun K "__init__" "Column.__init__" s_Column_init f fd) : FnOk P w K mg base CX0 1 f fd ["self", "name"] (sp_Column_init ad) := by
  refine F.ok sc_Column_init (fun vs H Q E h => ?_) (fun cdv A outer s H vs Q E hr h => ⟨_, (pss_cons (ps_fl T.cl_Column T.n_Column_name (pv 0) (pv 1)) (pss_cons (ps_fl T.cl_Column T.n_Column_low (pv 0) (pe_un un_neg (pe_cst (by rfl) T.k_FARTHEST))) (pss_cons (ps_fl T.cl_Column T.n_Column_high (pv 0) (pe_cst (by rfl) T.k_FARTHEST)) (pss_cons (ps_fl T.cl_Column T.n_Column_target (pv 0) pe_non) (pss_cons (ps_fl T.cl_Column T.n_Column_allows_none (pv 0) pe_bl) (pss_cons (ps_fl T.cl_Column T.n_Column_removal (pv 0) pe_str) (pss_one (ps_fl T.cl_Column T.n_Column_unique (pv 0) pe_bl)))))))), ?_⟩)
  · obtain ⟨x, dx, n, rfl, _⟩ := h
    rfl
  obtain ⟨x, dx, n, rfl, hx, k⟩ := h
  walk_at "rds"
  exact k _ ⟨_, upd_same.trans rfl⟩ (by walk_at "kp")
abbrev s_Table_init : Stmt := inClass (top 39) 0
theorem sc_Table_init : FnScope ["self", "name", "columns"] ["self", "name", "columns"] (defScope s_Table_init) := ⟨rfl, rfl, rfl, by decide +kernel, rfl, by decide +kernel, by decide +kernel⟩
def sp_Table_init (ad : Ads) : Sp := fun vs H Q _ => ∃ (x dx cl : Addr) (n : List Nat), vs = [.ref x, .str (T n), .ref cl] ∧ H x = some (.ins ad.Table dx []) ∧ ∀ H', (∃ dx', H' x = some (.ins ad.Table dx' (tabF n cl))) → Kp [x] H H' → Q .non H'
theorem ok_Table_init {f : Addr} {fd : FuncData} (T : Tp K mg ad) (F : Fun K "__init__" "Table.__init__" s_Table_init f fd) : FnOk P w K mg base CX0 1 f fd ["self", "name", "columns"] (sp_Table_init ad) := by
  refine F.ok sc_Table_init (fun vs H Q E h => ?_) (fun cdv A outer s H vs Q E hr h => ⟨_, (pss_cons (ps_fl T.cl_Table T.n_Table_name (pv 0) (pv 1)) (pss_one (ps_fl T.cl_Table T.n_Table_columns (pv 0) (pv 2)))), ?_⟩)
  · obtain ⟨x, dx, cl, n, rfl, _⟩ := h
    rfl
  obtain ⟨x, dx, cl, n, rfl, hx, k⟩ := h
  walk_at "rds"
  exact k _ ⟨_, upd_same.trans rfl⟩ (by walk_at "kp")
/-! ### take_new_name -/
def NmR (K : PySem.W.Frag) (H : Hp) (v : V) (n : List Nat) : Prop := ∃ a C dx fs, v = .ref a ∧ H a = some (.ins C dx fs) ∧ Cls K C ∧ NoAttr K C "name" ∧ fs.lookup ("name" : Str) = some (.str (T n))
/-- the reader stands at a place -/
structure RdW (ad : Ads) (H : Hp) (a tl sl rl : Addr) (ts : List Tk) (pos : Nat) : Prop where
  r : RdrAt ad H a tl sl rl pos
  tk : TokL H tl ts
  wf : WfT ts
  lt : pos < ts.length
  sep : tl ≠ rl ∧ tl ≠ sl ∧ sl ≠ rl
theorem RdW.at {H : Hp} {a tl sl rl : Addr} {ts : List Tk} {pos : Nat} (h : RdW ad H a tl sl rl ts pos) : ∃ t, RdT ad H a tl sl rl ts pos t ∧ ts[pos]? = some t := by
  obtain ⟨t, e⟩ := wf_ex h.lt
  exact ⟨t, ⟨h.r, h.tk, e⟩, e⟩
theorem OnR.at' {H H' : Hp} {a tl sl rl : Addr} {ts : List Tk} {pos n : Nat} (h : RdW ad H a tl sl rl ts pos) (o : OnR ad a tl sl rl ts n H H') (hn : n < ts.length) : RdW ad H' a tl sl rl ts n := ⟨o.1, o.2.1, h.wf, hn, h.sep⟩
abbrev s_SchemaReader_take_new_name : Stmt := inClass (top 85) 9
theorem sc_SchemaReader_take_new_name : FnScope ["self", "earlier", "place", "name", "other"] ["self", "earlier"] (defScope s_SchemaReader_take_new_name) := ⟨rfl, rfl, rfl, by decide +kernel, rfl, by decide +kernel, by decide +kernel⟩
def sp_new_name (ad : Ads) (K : PySem.W.Frag) : Sp := fun vs H Q E => ∃ (a tl sl rl el : Addr) (ts : List Tk) (pos : Nat) (ws : List V) (ns : List (List Nat)), vs = [.ref a, .ref el] ∧ RdW ad H a tl sl rl ts pos ∧ H el = some (.lst ws) ∧ Paired (NmR K H) ws ns ∧ ns.length ≤ 1000 ∧
  (∀ p n, readName (Sx ts pos) = .ok ((p, n), Sx ts (pos + 1)) → pos + 1 < ts.length → ns.contains n = false → ∀ H', OnR ad a tl sl rl ts (pos + 1) H H' → Q (.str (T n)) H') ∧
  (∀ p n, readName (Sx ts pos) = .ok ((p, n), Sx ts (pos + 1)) → ns.contains n = true → Rz ad [a] H E 6 p) ∧
  (∀ f, readName (Sx ts pos) = .error f → Rz ad [a] H E f.1 f.2)
theorem ok_take_new_name {f : Addr} {fd : FuncData} (T : Tp K mg ad)
    (m_SchemaReader_place_here : Mc P w K mg base CX0 1 ad.SchemaReader "place_here" ["self"] (sp_here ad fun t => .int t.pl))
    (m_SchemaReader_take_name : Mc P w K mg base (L2.CX P w) 4 ad.SchemaReader "take_name" ["self"] (sp_take_name ad))
    (x_FirstFault : Xc P w K mg base 1 ad.FirstFault ["self", "kind", "place"] (sp_FirstFault_init ad.FirstFault))
    (F : Fun K "take_new_name" "SchemaReader.take_new_name" s_SchemaReader_take_new_name f fd) : FnOk P w K mg base (L2.CX P w) 5 f fd ["self", "earlier"] (sp_new_name ad K) := by
  refine F.okX sc_SchemaReader_take_new_name (fun vs H Q E h => ?_) (fun cdv A outer s H vs Q E hr h => ⟨_, (pss_cons (ps_set (i := 2) sc_SchemaReader_take_new_name.nd rfl (.inl rfl) (pe_mc0 (pv 0) T.cl_SchemaReader m_SchemaReader_place_here (hr.mono (by decide)) pass0)) (pss_cons (ps_set (i := 3) sc_SchemaReader_take_new_name.nd rfl (.inl rfl) (pe_mc0 (pv 0) T.cl_SchemaReader m_SchemaReader_take_name (hr.mono (by decide)) (passes_call (takes_of rfl rfl rfl rfl) (fun _ _ _ _ h => h)))) (pss_cons (ps_if (pt_cmpR op_in_seq (pv 3) (pe_lc (own := [("other", 4)]) (g := gName 4) (tt := tYes) rfl sc_SchemaReader_take_new_name.nd (pi_list (pv 1)) (blkOk_by (N := ["self", "earlier", "place", "name", "other"]) (sc := defScope s_SchemaReader_take_new_name) (by decide +kernel)) (fun _ _ _ _ _ => pg_name (i := 4) sc_SchemaReader_take_new_name.nd rfl (Or.inl rfl)) (fun _ _ _ _ _ => pts_nil) (fun _ _ _ _ _ => (pe_fldN (K := K) (pv 4)))) (by rfl)) (pss_one (ps_raise rfl (takes_of rfl rfl rfl rfl) (pmk_x T.e_FirstFault x_FirstFault (hr.mono (by decide)) T.g_FirstFault (pa_cons (pe_cst (by rfl) T.k_NAMED_TWICE) (pa_cons (pv 2) pa_nil))))) pss_nil) (pss_one (ps_ret (pv 3)))))), ?_⟩)
  · obtain ⟨a, tl, sl, rl, el, ts, pos, ws, ns, rfl, _⟩ := h
    rfl
  obtain ⟨a, tl, sl, rl, el, ts, pos, ws, ns, rfl, rw, he, pr, hlen, k1, k2, k3⟩ := h
  obtain ⟨t, rt, ht⟩ := rw.at
  obtain ⟨dx, h1⟩ := rt.1.ex
  obtain ⟨rn1, rn2⟩ := read_name rw.wf ht
  obtain ⟨fa1, fa2⟩ := fault_at rw.wf ht
  walk_at "rd"
  refine ⟨fun hn H1 o => ?_, fun hn => ?_⟩
  · obtain ⟨rn, hp⟩ := rn1 hn
    have hne : el ≠ a := fun e => by rw [e, h1] at he; cases he
    have he1 : H1 el = some (.lst ws) := o.2.2 el _ (by simpa using hne) he
    have pr1 : Paired (NmR K H1) ws ns := Paired.mono (fun v n ⟨b, C, db, fs, e1, e2, e3, e4, e5⟩ => by
      by_cases hb : b = a
      · obtain ⟨da, ha⟩ := o.1.ex
        rw [hb, h1] at e2
        obtain ⟨rfl, rfl, rfl⟩ : ad.SchemaReader = C ∧ dx = db ∧ rdF tl pos sl rl = fs := by injection e2 with e2; injection e2 with a1 a2 a3; exact ⟨a1, a2, a3⟩
        exact absurd e5 (by intro z; cases z)
      · exact ⟨b, C, db, fs, e1, o.2.2 b _ (by simpa using hb) e2, e3, e4, e5⟩) pr
    walk_at "rd"
    refine ⟨⟨_, SqL.of he1⟩, fun D hD => ?_⟩
    refine lc_it walk_list (fun i H' => Nx (Same H1 H' ∧ H' D = some (.lst ((ns.take i).map fun n => V.str (Tw.T n))))) ⟨⟨fun b u e => by rw [upd_ne (ne_of_none e hD)]; exact e, upd_same⟩⟩ (fun i H' _ q => SqL.of (q.h.1 _ _ he1)) ?_ ?_
    · rintro i v H2 H2' hi ⟨s2, h2⟩ ⟨rfl, hv⟩
      obtain ⟨n, hn2, b, C, db, fs, rfl, e2, e3, e4, e5⟩ := paired_get' pr1 hv
      have e2' := s2 _ _ e2
      have hl2 : ((ns.take i).map fun n => V.str (Tw.T n)).length ≤ 1000 := by rw [List.length_map]; exact Nat.le_trans (List.length_take_le' ..) hlen
      walk_at "rd"
      refine ⟨⟨fun b u e => by rw [upd_ne (ne_of_none e hD)]; exact s2 b u e, ?_⟩⟩
      rw [take_more hn2, List.map_append]
      exact upd_same
    · rintro H2 ⟨s2, h2⟩
      rw [Paired.length pr1, List.take_length] at h2
      have hf : (ns.map fun n => V.str (Tw.T n)).all flatV = true := by simp [flatV]
      walk_at "rd"
      refine ifb (b := inV (.str (Tw.T t.txt)) (ns.map fun y => V.str (Tw.T y))) (fun h3 => ?_) (fun h3 => ?_)
      · rw [inV_strs] at h3
        walk_at "rd"
        refine ff_raise fun d H3 s3 e3 => k2 _ _ rn h3 d H3 (o.2.2.trans ((Kp.of_same s2).trans (Kp.of_same s3))) e3
      · rw [inV_strs] at h3
        have o2 : OnR ad a tl sl rl ts (pos + 1) H H2 := by
          obtain ⟨da, ha⟩ := o.1.ex
          obtain ⟨wt, w1, w2⟩ := o.2.1.ex
          exact ⟨⟨da, s2 _ _ ha⟩, ⟨wt, s2 _ _ w1, Paired.mono (fun v t => TokR.same s2) w2⟩, o.2.2.trans (Kp.of_same s2)⟩
        walk_at "rd"
        exact k1 _ _ rn hp h3 _ o2
  · exact fun d H' s e => k3 _ (rn2 hn) d H' (s.wider (by simp)) (by rw [fa1, fa2]; exact e)
end Tw
namespace Tw
open PySem PySem.Spec PyProof.Rows L2
open VauowBase (Toks isWord isSign isOver faultAt readName readInt readRange readRef readKind wantWord wantSign ascii reserved)

variable {P : Program} {w : World} {K : PySem.W.Frag} {mg : Str → Option Value} {base : Heap} {ad : Ads}
/-! ### numbers in a range -/
theorem num_at {ts : List Tk} (W : WfT ts) {pos : Nat} {t : Tk} (h : ts[pos]? = some t) (hs : t.sort = tN) : pos + 1 < ts.length ∧ t.txt ≠ [] ∧ t.txt.all (inS digS) = true ∧ t.txt.length ≤ 7 := by
  rcases wf_cases W h with ⟨e, _⟩ | ⟨⟨k1, k2, k3⟩, e, hp⟩
  · exact absurd (e.symm.trans hs) (by decide)
  · obtain ⟨d, r, hx⟩ : ∃ d r, t.txt = d :: r := by cases hx : t.txt with | nil => exact absurd hx k1 | cons d r => exact ⟨d, r, rfl⟩
    have hd : t.txt.head? = some d := by rw [hx]; rfl
    rw [hs, hx] at e
    have n1 : inS letS d = false := by
      refine Bool.eq_false_iff.mpr fun z => ?_
      have : sortT (d :: r) = if (d :: r).length ≤ 12 then tW else tM := if_pos z
      rw [this] at e
      by_cases g : (d :: r).length ≤ 12
      · rw [if_pos g] at e; exact absurd e (by decide)
      · rw [if_neg g] at e; exact absurd e (by decide)
    have n2 : inS digS d = true := by
      refine Classical.byContradiction fun z => ?_
      have : sortT (d :: r) = if inS sgnS d then tS else tX := (if_neg (by rw [n1]; decide)).trans (if_neg z)
      rw [this] at e
      by_cases g : inS sgnS d = true
      · rw [if_pos g] at e; exact absurd e (by decide)
      · rw [if_neg g] at e; exact absurd e (by decide)
    have : sortT (d :: r) = if isNum (d :: r) then tN else tM := (if_neg (by rw [n1]; decide)).trans (if_pos n2)
    rw [this] at e
    by_cases g : isNum (d :: r) = true
    · refine ⟨hp, k1, k2 d hd n2, ?_⟩
      unfold isNum at g
      rw [hx]
      simp only [Bool.and_eq_true, decide_eq_true_eq] at g
      exact g.1.1
    · rw [if_neg g] at e; exact absurd e (by decide)
theorem int_tok {t : Tk} (h1 : t.txt ≠ []) (h2 : t.txt.all (inS digS) = true) (h3 : t.txt.length ≤ 7) : intText? (T t.txt) = some ((VauowBase.valueIn t.txt : Nat) : Int) := by
  rw [value_eq]
  exact SX.int_S (dig_all h2) h1 (by omega)
theorem read_int1 {ts : List Tk} (W : WfT ts) {pos : Nat} {t : Tk} (h : ts[pos]? = some t) (hm : t.txt ≠ [45]) : (t.sort = tN → readInt (Sx ts pos) = .ok ((t.pl, ((VauowBase.valueIn t.txt : Nat) : Int)), Sx ts (pos + 1))) ∧ (t.sort ≠ tN → readInt (Sx ts pos) = .error (faultAt (Sx ts pos))) := by
  have hs := sx_at h
  have is := is_sign W h 45 (by decide)
  obtain ⟨s, x, p⟩ := t
  obtain ⟨h1, h2, h3, h4, h5, h6⟩ := tokOf_s s x p
  obtain ⟨l1, l2, l3, l4, l5, l6⟩ := isLast_s s x p
  refine ⟨fun e => ?_, fun hn => ?_⟩
  · rw [hs, h5 e, l5 e]; rfl
  · rcases sort_cases W h with e | e | e | e | e | e
    · rw [hs, h1 e]; rfl
    · rw [hs, h2 e]; rfl
    · rw [hs, h3 e]; rfl
    · rw [hs, h4 e]; rfl
    · exact absurd e hn
    · have hd : x.headD 0 ≠ 45 := fun z => hm (is.1.mp (by
        rw [hs, h6 e]
        show (45 == x.headD 0) = true
        rw [z]; rfl))
      rw [hs, h6 e]
      unfold readInt
      split
      · rename_i h7; injection h7 with h7 _; injection h7 with _ h7; cases h7
      · rename_i h7; injection h7 with h7 _; injection h7 with _ h7; injection h7 with h7; exact absurd h7 hd
      · rename_i h7; injection h7 with h7 _; injection h7 with _ h7; injection h7 with h7; exact absurd h7 hd
      · rfl
theorem read_int2 {ts : List Tk} (W : WfT ts) {pos : Nat} {t t2 : Tk} (h : ts[pos]? = some t) (hm : t.txt = [45]) (h2 : ts[pos + 1]? = some t2) : (t2.sort = tN → readInt (Sx ts pos) = .ok ((t.pl, -((VauowBase.valueIn t2.txt : Nat) : Int)), Sx ts (pos + 2))) ∧ (t2.sort ≠ tN → readInt (Sx ts pos) = .error (faultAt (Sx ts (pos + 1)))) := by
  have hs := sx_at h
  have hs2 := sx_at h2
  have is := (is_sign W h 45 (by decide)).2 hm
  have e1 : Sx ts pos = (t.pl, VauowBase.Tok.sign 45) :: Sx ts (pos + 1) := by
    have isg := (is_sign W h 45 (by decide)).1.mpr hm
    rw [hs, is.1] at isg ⊢
    obtain ⟨s, x, p⟩ := t
    have hm : x = [45] := hm
    rcases wf_cases W h with ⟨_, e, _⟩ | ⟨_, e, _⟩
    · exact absurd (hm.symm.trans e) (by decide)
    · have e : s = sortT x := e
      rw [hm] at e
      have e : s = tS := e
      rw [(tokOf_s s x p).2.2.2.2.2 e, hm]; rfl
  rw [e1]
  obtain ⟨s, x, p⟩ := t2
  obtain ⟨o1, o2, o3, o4, o5, o6⟩ := tokOf_s s x p
  obtain ⟨l1, l2, l3, l4, l5, l6⟩ := isLast_s s x p
  refine ⟨fun e => ?_, fun hn => ?_⟩
  · rw [hs2, o5 e, l5 e]; rfl
  · rcases sort_cases W h2 with e | e | e | e | e | e
    · rw [hs2, o1 e]; rfl
    · rw [hs2, o2 e]; rfl
    · rw [hs2, o3 e]; rfl
    · rw [hs2, o4 e]; rfl
    · exact absurd e hn
    · rw [hs2, o6 e]; rfl
theorem Rz.sub {as bs : List Addr} {H H1 : Hp} {E : XK} {k p : Int} (h : Rz ad as H E k p) (s : Kp as H H1) (hb : ∀ x ∈ bs, x ∈ as) : Rz ad bs H1 E k p := fun d H' s' e => h d H' (s.trans (s'.wider hb)) e
abbrev s_SchemaReader_read_bound : Stmt := inClass (top 85) 14
theorem sc_SchemaReader_read_bound : FnScope ["self", "below_zero", "number"] ["self"] (defScope s_SchemaReader_read_bound) := ⟨rfl, rfl, rfl, by decide +kernel, rfl, by decide +kernel, by decide +kernel⟩
def sp_read_bound (ad : Ads) : Sp := fun vs H Q E => ∃ (a tl sl rl : Addr) (ts : List Tk) (pos : Nat), vs = [.ref a] ∧ RdW ad H a tl sl rl ts pos ∧
  (∀ p z n, readInt (Sx ts pos) = .ok ((p, z), Sx ts n) → n < ts.length → ∀ H', OnR ad a tl sl rl ts n H H' → Q (.int z) H') ∧
  (∀ f, readInt (Sx ts pos) = .error f → Rz ad [a] H E f.1 f.2)
theorem ok_read_bound {f : Addr} {fd : FuncData} (T : Tp K mg ad)
    (m_SchemaReader_sort_here : Mc P w K mg base CX0 1 ad.SchemaReader "sort_here" ["self"] (sp_here ad fun t => .str (Tw.T t.sort)))
    (m_SchemaReader_take_if : Mc P w K mg base CX0 2 ad.SchemaReader "take_if" ["self", "wanted"] (sp_take_if ad))
    (m_SchemaReader_take_any : Mc P w K mg base CX0 2 ad.SchemaReader "take_any" ["self"] (sp_take_any ad))
    (m_SchemaReader_refuse_token : Mc P w K mg base (L2.CX P w) 3 ad.SchemaReader "refuse_token" ["self"] (sp_refuse ad))
    (F : Fun K "read_bound" "SchemaReader.read_bound" s_SchemaReader_read_bound f fd) : FnOk P w K mg base (L2.CX P w) 4 f fd ["self"] (sp_read_bound ad) := by
  refine F.okX sc_SchemaReader_read_bound (fun vs H Q E h => ?_) (fun cdv A outer s H vs Q E hr h => ⟨_, (pss_cons (ps_set (i := 1) sc_SchemaReader_read_bound.nd rfl (.inl rfl) (pe_mc (pv 0) T.cl_SchemaReader m_SchemaReader_take_if (hr.mono (by decide)) pass0 (pa_cons pe_str pa_nil))) (pss_cons (ps_if (pt_cmpR op_ne (pe_mc0 (pv 0) T.cl_SchemaReader m_SchemaReader_sort_here (hr.mono (by decide)) pass0) (pe_cst (by rfl) T.k_NUMBER) (nomark _)) (pss_one (ps_expr (pe_mc0 (pv 0) T.cl_SchemaReader m_SchemaReader_refuse_token (hr.mono (by decide)) (passes_call (takes_of rfl rfl rfl rfl) (fun _ _ _ _ h => h))))) pss_nil) (pss_cons (ps_set (i := 2) sc_SchemaReader_read_bound.nd rfl (.inl rfl) (pe_callTy call_int_str (by rfl) T.b_int (by decide +kernel) (pa_cons (pe_mc0 (pv 0) T.cl_SchemaReader m_SchemaReader_take_any (hr.mono (by decide)) pass0) pa_nil))) (pss_one (ps_ret (pe_ifExp (pt_val (pv 1)) (pe_un un_neg (pv 2)) (pv 2))))))), ?_⟩)
  · obtain ⟨a, tl, sl, rl, ts, pos, rfl, _⟩ := h
    rfl
  obtain ⟨a, tl, sl, rl, ts, pos, rfl, rw, k1, k2⟩ := h
  obtain ⟨t, rt, ht⟩ := rw.at
  obtain ⟨dx, h1⟩ := rt.1.ex
  walk_at "rd"
  refine ⟨fun hm H1 o => ?_, fun hm => ?_⟩
  · have hm : t.txt = [45] := hm
    have hp := ((is_sign rw.wf ht 45 (by decide)).2 hm).2
    obtain ⟨t2, ht2⟩ := wf_ex hp
    obtain ⟨r1, r2⟩ := read_int2 rw.wf ht hm ht2
    obtain ⟨fa1, fa2⟩ := fault_at rw.wf ht2
    have rt2 : RdT ad H1 a tl sl rl ts (pos + 1) t2 := ⟨o.1, o.2.1, ht2⟩
    obtain ⟨dx2, h12⟩ := o.1.ex
    walk_at "rd"
    refine ifnd (fun h3 => ?_) (fun h3 => ?_)
    · have q := k2 _ (r2 fun z => h3 (strE.mpr z))
      rw [fa1, fa2] at q
      have q := q.sub o.2.2 (bs := []) (by simp)
      walk_at "rd"
      exact q
    · have hs : t2.sort = tN := strE.mp h3
      obtain ⟨n1, n2, n3, n4⟩ := num_at rw.wf ht2 hs
      have hi := int_tok n2 n3 n4
      have hl := T_len t2.txt
      walk_at "rd"
      intro H2 o2
      walk_at "rd"
      exact k1 _ _ _ (r1 hs) n1 _ ⟨o2.1, o2.2.1, o.2.2.trans o2.2.2⟩
  · have hm : t.txt ≠ [45] := hm
    obtain ⟨r1, r2⟩ := read_int1 rw.wf ht hm
    obtain ⟨fa1, fa2⟩ := fault_at rw.wf ht
    walk_at "rd"
    refine ifnd (fun h3 => ?_) (fun h3 => ?_)
    · have q := k2 _ (r2 fun z => h3 (strE.mpr z))
      rw [fa1, fa2] at q
      have q := q.sub (Kp.refl _ _) (bs := []) (by simp)
      walk_at "rd"
      exact q
    · have hs : t.sort = tN := strE.mp h3
      obtain ⟨n1, n2, n3, n4⟩ := num_at rw.wf ht hs
      have hi := int_tok n2 n3 n4
      have hl := T_len t.txt
      walk_at "rd"
      intro H2 o2
      walk_at "rd"
      exact k1 _ _ _ (r1 hs) n1 _ o2
end Tw
namespace Tw
open PySem PySem.Spec PyProof.Rows L2
open VauowBase (Toks isWord isSign isOver faultAt readName readInt readRange readRef readKind wantWord wantSign ascii reserved)

variable {P : Program} {w : World} {K : PySem.W.Frag} {mg : Str → Option Value} {base : Heap} {ad : Ads}
theorem ColAt.kp {as : List Addr} {H H' : Hp} {a : Addr} {c : RC} (h : ColAt ad H a c) (k : Kp as H H') (n : a ∉ as) : ColAt ad H' a c := by
  obtain ⟨dx, e⟩ := h.ex
  exact ⟨dx, k a _ n e⟩
/-- a column is no reader -/
theorem col_ne {H : Hp} {a ca tl sl rl : Addr} {pos : Nat} {c : RC} (h : ColAt ad H ca c) (r : RdrAt ad H a tl sl rl pos) : ca ≠ a := by
  obtain ⟨dx, e⟩ := h.ex
  obtain ⟨dr, e2⟩ := r.ex
  intro z
  rw [z, e2] at e
  injection e with e
  injection e with _ _ e
  injection e with e _
  injection e with e _
  exact absurd e (by decide)
/-- the reader, a column changed beside it -/
theorem onR_col {H : Hp} {a ca tl sl rl : Addr} {ts : List Tk} {pos : Nat} {c c' : RC} (r : RdrAt ad H a tl sl rl pos) (tk : TokL H tl ts) (h : ColAt ad H ca c) (dx : Addr) : RdrAt ad (upd H ca (.ins ad.Column dx (colF c'))) a tl sl rl pos ∧ TokL (upd H ca (.ins ad.Column dx (colF c'))) tl ts ∧ ColAt ad (upd H ca (.ins ad.Column dx (colF c'))) ca c' := by
  have hne := col_ne h r
  obtain ⟨dr, e2⟩ := r.ex
  obtain ⟨dc, e3⟩ := h.ex
  refine ⟨⟨dr, by rw [upd_ne hne.symm]; exact e2⟩, TokL.kp (as := [ca]) (Kp.upd (by simp)) ?_ ?_ tk, ⟨dx, upd_same⟩⟩
  · intro b hb xs e
    obtain rfl := List.mem_singleton.mp hb
    rw [e3] at e; cases e
  · obtain ⟨ws, h4, _⟩ := tk.ex
    intro m
    obtain rfl := List.mem_singleton.mp m
    rw [e3] at h4; cases h4
theorem read_int_pl {ts : List Tk} {pos : Nat} {t : Tk} (h : ts[pos]? = some t) {p : Nat} {z : Int} {r : Toks} (e : readInt (Sx ts pos) = .ok ((p, z), r)) : p = t.pl := by
  rw [sx_at h] at e
  unfold readInt at e
  split at e
  · rename_i h1
    injection h1 with h1 _; injection h1 with h1 _
    injection e with e; injection e with e _; injection e with e _
    omega
  · rename_i h1
    injection h1 with h1 _; injection h1 with h1 _
    injection e with e; injection e with e _; injection e with e _
    omega
  · cases e
  · cases e
abbrev s_SchemaReader_read_range : Stmt := inClass (top 85) 13
theorem sc_SchemaReader_read_range : FnScope ["self", "column", "place"] ["self", "column"] (defScope s_SchemaReader_read_range) := ⟨rfl, rfl, rfl, by decide +kernel, rfl, by decide +kernel, by decide +kernel⟩
def sp_read_range (ad : Ads) : Sp := fun vs H Q E => ∃ (a tl sl rl ca : Addr) (ts : List Tk) (pos : Nat) (c : RC), vs = [.ref a, .ref ca] ∧ RdW ad H a tl sl rl ts pos ∧ ColAt ad H ca c ∧ c.lo = -1000000 ∧ c.hi = 1000000 ∧
  (∀ lo hi n, readRange (Sx ts pos) = .ok (.number lo hi, Sx ts n) → n < ts.length → ∀ H', RdrAt ad H' a tl sl rl n → TokL H' tl ts → ColAt ad H' ca { c with lo := lo, hi := hi } → Kp [a, ca] H H' → Q .non H') ∧
  (∀ f, readRange (Sx ts pos) = .error f → Rz ad [a, ca] H E f.1 f.2)
theorem ok_read_range {f : Addr} {fd : FuncData} (T : Tp K mg ad)
    (m_SchemaReader_take_if : Mc P w K mg base CX0 2 ad.SchemaReader "take_if" ["self", "wanted"] (sp_take_if ad))
    (m_SchemaReader_take : Mc P w K mg base (L2.CX P w) 4 ad.SchemaReader "take" ["self", "wanted"] (sp_take ad))
    (m_SchemaReader_place_here : Mc P w K mg base CX0 1 ad.SchemaReader "place_here" ["self"] (sp_here ad fun t => .int t.pl))
    (m_SchemaReader_read_bound : Mc P w K mg base (L2.CX P w) 4 ad.SchemaReader "read_bound" ["self"] (sp_read_bound ad))
    (x_FirstFault : Xc P w K mg base 1 ad.FirstFault ["self", "kind", "place"] (sp_FirstFault_init ad.FirstFault))
    (F : Fun K "read_range" "SchemaReader.read_range" s_SchemaReader_read_range f fd) : FnOk P w K mg base (L2.CX P w) 5 f fd ["self", "column"] (sp_read_range ad) := by
  refine F.okX sc_SchemaReader_read_range (fun vs H Q E h => ?_) (fun cdv A outer s H vs Q E hr h => ⟨_, (pss_cons (ps_if (pt_not (pt_val (pe_mc (pv 0) T.cl_SchemaReader m_SchemaReader_take_if (hr.mono (by decide)) pass0 (pa_cons pe_str pa_nil)))) (pss_one ps_retN) pss_nil) (pss_cons (ps_fl T.cl_Column T.n_Column_low (pv 1) (pe_mc0 (pv 0) T.cl_SchemaReader m_SchemaReader_read_bound (hr.mono (by decide)) (passes_call (takes_of rfl rfl rfl rfl) (fun _ _ _ _ h => h)))) (pss_cons (ps_expr (pe_mc (pv 0) T.cl_SchemaReader m_SchemaReader_take (hr.mono (by decide)) (passes_call (takes_of rfl rfl rfl rfl) (fun _ _ _ _ h => h)) (pa_cons pe_str pa_nil))) (pss_cons (ps_set (i := 2) sc_SchemaReader_read_range.nd rfl (.inl rfl) (pe_mc0 (pv 0) T.cl_SchemaReader m_SchemaReader_place_here (hr.mono (by decide)) pass0)) (pss_cons (ps_fl T.cl_Column T.n_Column_high (pv 1) (pe_mc0 (pv 0) T.cl_SchemaReader m_SchemaReader_read_bound (hr.mono (by decide)) (passes_call (takes_of rfl rfl rfl rfl) (fun _ _ _ _ h => h)))) (pss_one (ps_if (pt_cmpR op_lt (pe_fl T.cl_Column T.n_Column_high (pv 1)) (pe_fl T.cl_Column T.n_Column_low (pv 1)) (nomark _)) (pss_one (ps_raise rfl (takes_of rfl rfl rfl rfl) (pmk_x T.e_FirstFault x_FirstFault (hr.mono (by decide)) T.g_FirstFault (pa_cons (pe_cst (by rfl) T.k_AT_ODDS) (pa_cons (pv 2) pa_nil))))) pss_nil))))))), ?_⟩)
  · obtain ⟨a, tl, sl, rl, ca, ts, pos, c, rfl, _⟩ := h
    rfl
  obtain ⟨a, tl, sl, rl, ca, ts, pos, c, rfl, rw, hc, hlo, hhi, k1, k2⟩ := h
  obtain ⟨t, rt, ht⟩ := rw.at
  obtain ⟨dx, h1⟩ := rt.1.ex
  have isw := is_word rw.wf ht "from" (by decide) (by decide)
  walk_at "rd"
  refine ⟨fun hm H1 o => ⟨_, rfl, iteF ?_⟩, fun hm => ⟨_, rfl, iteT ?_⟩⟩
  · obtain ⟨l1, p1⟩ := isw.2 hm
    have e1 : readRange (Sx ts pos) = (readInt (Sx ts (pos + 1))).bind fun a => (wantWord "to" a.2).bind fun q => (readInt q).bind fun b => if b.1.2 < a.1.2 then .error (8, b.1.1) else .ok (.number a.1.2 b.1.2, b.2) := by
      unfold readRange
      rw [if_pos (isw.1.mpr hm), sx_next ht l1]
    have rw1 : RdW ad H1 a tl sl rl ts (pos + 1) := o.at' rw p1
    obtain ⟨dx1, h11⟩ := o.1.ex
    walk_at "rd"
    refine ⟨fun p z n e2 hn H2 o2 => ?_, fun f e2 => (k2 f (by rw [e1, e2]; rfl)).sub (o.2.2.wider (by simp)) (by simp)⟩
    have k02 : Kp [a] H H2 := o.2.2.trans o2.2.2
    have hca := col_ne hc rw.r
    have hc2 : ColAt ad H2 ca c := hc.kp k02 (by simpa using hca)
    obtain ⟨dc, hdc⟩ := hc2.ex
    walk_at "rd"
    intro H3 e3
    have e3 : H3 = upd H2 ca (.ins ad.Column dc (colF { c with lo := z })) := e3
    obtain ⟨r3, tk3, hc3⟩ := onR_col (c' := { c with lo := z }) o2.1 o2.2.1 hc2 dc
    have k23 : Kp [a, ca] H2 (upd H2 ca (.ins ad.Column dc (colF { c with lo := z }))) := Kp.upd (by simp)
    rw [← e3] at r3 tk3 hc3 k23
    have k03 := (k02.wider (bs := [a, ca]) (by simp)).trans k23
    have rw3 : RdW ad H3 a tl sl rl ts n := ⟨r3, tk3, rw.wf, hn, rw.sep⟩
    obtain ⟨t3, rt3, ht3⟩ := rw3.at
    obtain ⟨dx3, h13⟩ := r3.ex
    have isw3 := is_word rw.wf ht3 "to" (by decide) (by decide)
    obtain ⟨fa1, fa2⟩ := fault_at rw.wf ht3
    walk_at "rd"
    refine ⟨fun hm3 H4 o4 => ?_, fun hm3 => ?_⟩
    · obtain ⟨l3, p3⟩ := isw3.2 hm3
      have e4 : wantWord "to" (Sx ts n) = .ok (Sx ts (n + 1)) := by
        unfold wantWord
        rw [if_pos (isw3.1.mpr hm3), sx_next ht3 l3]
      have rw4 : RdW ad H4 a tl sl rl ts (n + 1) := o4.at' rw3 p3
      obtain ⟨t4, rt4, ht4⟩ := rw4.at
      obtain ⟨dx4, h14⟩ := rw4.r.ex
      have k04 := k03.trans (o4.2.2.wider (bs := [a, ca]) (by simp))
      have ex : ∀ f, readInt (Sx ts (n + 1)) = .error f → readRange (Sx ts pos) = .error f := fun f e5 => by
        rw [e1, e2]
        show (wantWord "to" (Sx ts n)).bind _ = _
        rw [e4]
        show (readInt (Sx ts (n + 1))).bind _ = _
        rw [e5]; rfl
      walk_at "rd"
      refine ⟨fun p5 z5 n5 e5 hn5 H5 o5 => ?_, fun f e5 => (k2 f (ex f e5)).sub k04 (by simp)⟩
      have ey : readRange (Sx ts pos) = if z5 < z then .error (8, p5) else .ok (.number z z5, Sx ts n5) := by
        rw [e1, e2]
        show (wantWord "to" (Sx ts n)).bind _ = _
        rw [e4]
        show (readInt (Sx ts (n + 1))).bind _ = _
        rw [e5]; rfl
      have epl := read_int_pl ht4 e5
      have k05 := k04.trans (o5.2.2.wider (bs := [a, ca]) (by simp))
      have hc5 : ColAt ad H5 ca { c with lo := z } := (hc3.kp o4.2.2 (by simpa using hca)).kp o5.2.2 (by simpa using hca)
      obtain ⟨dc5, hdc5⟩ := hc5.ex
      walk_at "rd"
      intro H6 e6
      have e6 : H6 = upd H5 ca (.ins ad.Column dc5 (colF { c with lo := z, hi := z5 })) := e6
      obtain ⟨r6, tk6, hc6⟩ := onR_col (c' := { c with lo := z, hi := z5 }) o5.1 o5.2.1 hc5 dc5
      have k06 := k05.trans (Kp.upd (a := ca) (o := .ins ad.Column dc5 (colF { c with lo := z, hi := z5 })) (by simp))
      rw [← e6] at r6 tk6 hc6 k06
      obtain ⟨dc6, hdc6⟩ := hc6.ex
      walk_at "rd"
      refine ifd (fun h7 => ?_) (fun h7 => ?_)
      · rw [if_pos h7] at ey
        walk_at "rd"
        exact ff_raise fun d H7 s7 e7 => k2 _ ey d H7 (k06.trans (Kp.of_same s7)) (by rw [epl]; exact e7)
      · rw [if_neg h7] at ey
        walk_at "rd"
        exact k1 _ _ _ ey hn5 _ r6 tk6 hc6 k06
    · have ex : readRange (Sx ts pos) = .error (faultAt (Sx ts n)) := by
        rw [e1, e2]
        show (wantWord "to" (Sx ts n)).bind _ = _
        unfold wantWord
        rw [if_neg (fun z => hm3 (isw3.1.mp z))]; rfl
      have q := (k2 _ ex).sub k03 (bs := []) (by simp)
      rw [fa1, fa2] at q
      exact q
  · walk_at "rd"
    have e1 : readRange (Sx ts pos) = .ok (.number (-VauowBase.TOP) VauowBase.TOP, Sx ts pos) := by
      unfold readRange
      rw [if_neg (fun z => hm (isw.1.mp z))]
    refine k1 _ _ pos e1 rw.lt H rw.r rw.tk ?_ (Kp.refl _ _)
    obtain ⟨n, lo, hi, tg, no, aw, un⟩ := c
    have hlo : lo = -1000000 := hlo
    have hhi : hi = 1000000 := hhi
    subst hlo hhi
    exact hc
end Tw
namespace Tw
open PySem PySem.Spec PyProof.Rows L2
open VauowBase (Toks isWord isSign isOver faultAt readName readInt readRange readRef readKind wantWord wantSign ascii reserved here)

variable {P : Program} {w : World} {K : PySem.W.Frag} {mg : Str → Option Value} {base : Heap} {ad : Ads}
structure Rf where
  ca : Addr
  nm : List Nat
  pl : Nat
def RefR (H : Hp) (v : V) (r : Rf) : Prop := ∃ b, v = .ref b ∧ H b = some (.tup [.ref r.ca, .str (T r.nm), .int r.pl])
structure RefL (H : Hp) (rl : Addr) (rs : List Rf) : Prop where
  ex : ∃ ws, H rl = some (.lst ws) ∧ Paired (RefR H) ws rs
theorem RefL.kp {as : List Addr} {H H' : Hp} {rl : Addr} {rs : List Rf} (h : RefL H rl rs) (k : Kp as H H') (n : ∀ a ∈ as, ∀ xs, H a ≠ some (.tup xs)) (hn : rl ∉ as) : RefL H' rl rs := by
  obtain ⟨ws, h1, h2⟩ := h.ex
  exact ⟨ws, k rl _ hn h1, Paired.mono (fun v r ⟨b, e, hb⟩ => ⟨b, e, k b _ (fun m => n b m _ hb) hb⟩) h2⟩
def awT : VauowBase.Away → List Nat
  | .keep => []
  | .cascade => ascii "cascade"
  | .clear => ascii "clear"
theorem no_tup {H : Hp} {a : Addr} {C dx : Addr} {fs : List (Str × V)} (h : H a = some (.ins C dx fs)) : ∀ b ∈ [a], ∀ xs, H b ≠ some (.tup xs) := by
  intro b hb xs e
  obtain rfl := List.mem_singleton.mp hb
  rw [h] at e; cases e
theorem no_tupL {H : Hp} {a : Addr} {ws : List V} (h : H a = some (.lst ws)) : ∀ b ∈ [a], ∀ xs, H b ≠ some (.tup xs) := by
  intro b hb xs e
  obtain rfl := List.mem_singleton.mp hb
  rw [h] at e; cases e
theorem ref_ne {H : Hp} {a rl : Addr} {C dx : Addr} {fs : List (Str × V)} {rs : List Rf} (h : H a = some (.ins C dx fs)) (r : RefL H rl rs) : rl ∉ [a] := by
  obtain ⟨ws, h1, _⟩ := r.ex
  intro m
  obtain rfl := List.mem_singleton.mp m
  rw [h] at h1; cases h1
theorem Mc.imp {CX : CXT} {k : Nat} {C : Addr} {m : Str} {ps : List Str} {sp sp' : Sp} (M : Mc P w K mg base CX k C m ps sp) (h : ∀ vs H Q E, sp' vs H Q E → sp vs H Q E) : Mc P w K mg base CX k C m ps sp' := by
  obtain ⟨f, fd, h1, h2, h3⟩ := M
  exact ⟨f, fd, h1, h2, ⟨fun vs H Q E q => h3.len vs H Q E (h vs H Q E q), fun A outer s H args us vs Q E hr env hb hv q => h3.run A outer s H args us vs Q E hr env hb hv (h vs H Q E q)⟩⟩
/-- take_if, both ways at once -/
def sp_take_if2 (ad : Ads) : Sp := fun vs H Q _ => ∃ (a tl sl rl : Addr) (ts : List Tk) (pos : Nat) (t : Tk) (x : List Nat), vs = [.ref a, .str (T x)] ∧ RdT ad H a tl sl rl ts pos t ∧
  ∀ b H', (b = true → t.txt = x ∧ OnR ad a tl sl rl ts (pos + 1) H H') → (b = false → t.txt ≠ x ∧ H' = H) → Q (.bl b) H'
theorem take_if2 {k : Nat} (M : Mc P w K mg base CX0 k ad.SchemaReader "take_if" ["self", "wanted"] (sp_take_if ad)) : Mc P w K mg base CX0 k ad.SchemaReader "take_if" ["self", "wanted"] (sp_take_if2 ad) :=
  M.imp fun vs H Q E ⟨a, tl, sl, rl, ts, pos, t, x, e, rt, q⟩ => ⟨a, tl, sl, rl, ts, pos, t, x, e, rt, fun hx H' o => q true H' (fun _ => ⟨hx, o⟩) (fun z => by cases z), fun hx => q false H (fun z => by cases z) (fun _ => ⟨hx, rfl⟩)⟩
theorem took {H3 H4 : Hp} {a tl sl rl : Addr} {ts : List Tk} {q : Nat} {t : Tk} {wd : String} {b : Bool} (rw : RdW ad H3 a tl sl rl ts q) (ht : ts[q]? = some t) (isn : (isWord wd (Sx ts q) = true ↔ t.txt = ascii wd) ∧ (t.txt = ascii wd → isLast t = false ∧ q + 1 < ts.length))
    (hy : b = true → t.txt = ascii wd ∧ OnR ad a tl sl rl ts (q + 1) H3 H4) (hn : b = false → t.txt ≠ ascii wd ∧ H4 = H3) :
    ∃ m, RdW ad H4 a tl sl rl ts m ∧ Kp [a] H3 H4 ∧ Sx ts m = (if b then (Sx ts q).drop 1 else Sx ts q) ∧ isWord wd (Sx ts q) = b := by
  cases b with
  | true =>
    obtain ⟨e, o⟩ := hy rfl
    obtain ⟨l, p⟩ := isn.2 e
    exact ⟨q + 1, o.at' rw p, o.2.2, by rw [if_pos rfl, sx_next ht l], isn.1.mpr e⟩
  | false =>
    obtain ⟨e, rfl⟩ := hn rfl
    exact ⟨q, rw, Kp.refl _ _, rfl, Bool.eq_false_iff.mpr fun z => e (isn.1.mp z)⟩
/-- a column's field is stored -/
theorem colSet {H H' : Hp} {a ca tl sl rl dc : Addr} {ts : List Tk} {m : Nat} {c c' : RC} {rs : List Rf} (rw : RdW ad H a tl sl rl ts m) (hc : ColAt ad H ca c) (hr : RefL H rl rs) (e : H' = upd H ca (.ins ad.Column dc (colF c'))) :
    RdW ad H' a tl sl rl ts m ∧ ColAt ad H' ca c' ∧ RefL H' rl rs ∧ Kp [ca] H H' := by
  obtain ⟨r, tk, hc'⟩ := onR_col (c' := c') rw.r rw.tk hc dc
  obtain ⟨d, hd⟩ := hc.ex
  have k : Kp [ca] H H' := by rw [e]; exact Kp.upd (by simp)
  rw [← e] at r tk hc'
  exact ⟨⟨r, tk, rw.wf, rw.lt, rw.sep⟩, hc', hr.kp k (no_tup hd) (ref_ne hd hr), k⟩
abbrev s_SchemaReader_read_reference : Stmt := inClass (top 85) 15
theorem sc_SchemaReader_read_reference : FnScope ["self", "column", "place"] ["self", "column"] (defScope s_SchemaReader_read_reference) := ⟨rfl, rfl, rfl, by decide +kernel, rfl, by decide +kernel, by decide +kernel⟩
def sp_read_reference (ad : Ads) : Sp := fun vs H Q E => ∃ (a tl sl rl ca : Addr) (ts : List Tk) (pos : Nat) (c : RC) (rs : List Rf), vs = [.ref a, .ref ca] ∧ RdW ad H a tl sl rl ts pos ∧ ColAt ad H ca c ∧ RefL H rl rs ∧ rs.length ≤ 500 ∧ c.none_ = false ∧ c.away = [] ∧
  (∀ p x nn aw n, readRef (Sx ts pos) = .ok (.ref p x nn aw, Sx ts n) → n < ts.length → ∀ H', RdrAt ad H' a tl sl rl n → TokL H' tl ts → ColAt ad H' ca { c with none_ := nn, away := awT aw } → RefL H' rl (rs ++ [⟨ca, x, p⟩]) → Kp [a, ca, rl] H H' → Q .non H') ∧
  (∀ f, readRef (Sx ts pos) = .error f → Rz ad [a, ca, rl] H E f.1 f.2)
theorem ok_read_reference {f : Addr} {fd : FuncData} (T : Tp K mg ad)
    (m_SchemaReader_take_if : Mc P w K mg base CX0 2 ad.SchemaReader "take_if" ["self", "wanted"] (sp_take_if2 ad))
    (m_SchemaReader_take_name : Mc P w K mg base (L2.CX P w) 4 ad.SchemaReader "take_name" ["self"] (sp_take_name ad))
    (m_SchemaReader_place_here : Mc P w K mg base CX0 1 ad.SchemaReader "place_here" ["self"] (sp_here ad fun t => .int t.pl))
    (x_FirstFault : Xc P w K mg base 1 ad.FirstFault ["self", "kind", "place"] (sp_FirstFault_init ad.FirstFault))
    (F : Fun K "read_reference" "SchemaReader.read_reference" s_SchemaReader_read_reference f fd) : FnOk P w K mg base (L2.CX P w) 5 f fd ["self", "column"] (sp_read_reference ad) := by
  refine F.okX sc_SchemaReader_read_reference (fun vs H Q E h => ?_) (fun cdv A outer s H vs Q E hr h => ⟨_, (pss_cons (ps_set (i := 2) sc_SchemaReader_read_reference.nd rfl (.inl rfl) (pe_mc0 (pv 0) T.cl_SchemaReader m_SchemaReader_place_here (hr.mono (by decide)) pass0)) (pss_cons (ps_expr (pe_bm PySem.F.plainAttrs_list PySem.F.slot_list_append PySem.F.type_list_append mt_appL (pe_fl T.cl_SchemaReader T.n_SchemaReader_references (pv 0)) (pa_cons (pe_tup (pa_cons (pv 1) (pa_cons (pe_mc0 (pv 0) T.cl_SchemaReader m_SchemaReader_take_name (hr.mono (by decide)) (passes_call (takes_of rfl rfl rfl rfl) (fun _ _ _ _ h => h))) (pa_cons (pv 2) pa_nil)))) pa_nil))) (pss_cons (ps_fl T.cl_Column T.n_Column_allows_none (pv 1) (pe_mc (pv 0) T.cl_SchemaReader m_SchemaReader_take_if (hr.mono (by decide)) pass0 (pa_cons pe_str pa_nil))) (pss_cons (ps_set (i := 2) sc_SchemaReader_read_reference.nd rfl (.inl rfl) (pe_mc0 (pv 0) T.cl_SchemaReader m_SchemaReader_place_here (hr.mono (by decide)) pass0)) (pss_one (ps_if (pt_val (pe_mc (pv 0) T.cl_SchemaReader m_SchemaReader_take_if (hr.mono (by decide)) pass0 (pa_cons pe_str pa_nil))) (pss_one (ps_fl T.cl_Column T.n_Column_removal (pv 1) pe_str)) (pss_one (ps_if (pt_val (pe_mc (pv 0) T.cl_SchemaReader m_SchemaReader_take_if (hr.mono (by decide)) pass0 (pa_cons pe_str pa_nil))) (pss_cons (ps_if (pt_not (pt_val (pe_fl T.cl_Column T.n_Column_allows_none (pv 1)))) (pss_one (ps_raise rfl (takes_of rfl rfl rfl rfl) (pmk_x T.e_FirstFault x_FirstFault (hr.mono (by decide)) T.g_FirstFault (pa_cons (pe_cst (by rfl) T.k_AT_ODDS) (pa_cons (pv 2) pa_nil))))) pss_nil) (pss_one (ps_fl T.cl_Column T.n_Column_removal (pv 1) pe_str))) pss_nil)))))))), ?_⟩)
  · obtain ⟨a, tl, sl, rl, ca, ts, pos, c, rs, rfl, _⟩ := h
    rfl
  obtain ⟨a, tl, sl, rl, ca, ts, pos, c, rs, rfl, rw, hc, hrl, hrs, hno, haw, k1, k2⟩ := h
  obtain ⟨t, rt, ht⟩ := rw.at
  obtain ⟨dx, h1⟩ := rt.1.ex
  obtain ⟨rn1, rn2⟩ := read_name rw.wf ht
  obtain ⟨fa1, fa2⟩ := fault_at rw.wf ht
  obtain ⟨ws, hw, hpr⟩ := hrl.ex
  have hca := col_ne hc rw.r
  walk_at "rd"
  refine ⟨fun hn H1 o => ?_, fun hn => ?_⟩
  · obtain ⟨rn, hp⟩ := rn1 hn
    have rw1 : RdW ad H1 a tl sl rl ts (pos + 1) := o.at' rw hp
    have hrl1 : RefL H1 rl rs := hrl.kp o.2.2 (no_tup h1) (ref_ne h1 hrl)
    have hc1 : ColAt ad H1 ca c := hc.kp o.2.2 (by simpa using hca)
    walk_at "rd"
    refine al fun q H2 n2 s2 hq => ?_
    have hw1 : H1 rl = some (.lst ws) := o.2.2 _ _ (ref_ne h1 hrl) hw
    have hw2 := s2 _ _ hw1
    have hlen : ws.length ≤ 500 := by rw [Paired.length hpr]; exact hrs
    walk_at "rd"
    intro H3 e3
    have k13 : Kp [rl] H1 H3 := (Kp.of_same s2).trans (by rw [e3]; exact Kp.upd (by simp))
    have arl : a ≠ rl := fun z => by rw [← z, h1] at hw; cases hw
    have crl : ca ≠ rl := fun z => by
      obtain ⟨dc, hdc⟩ := hc.ex
      rw [← z, hdc] at hw; cases hw
    have r3 : RdrAt ad H3 a tl sl rl (pos + 1) := by
      obtain ⟨d1, hd1⟩ := o.1.ex
      exact ⟨d1, k13 _ _ (by simpa using arl) hd1⟩
    have tk3 : TokL H3 tl ts := o.2.1.kp k13 (no_tupL hw1) (by simpa using rw.sep.1)
    have rw3 : RdW ad H3 a tl sl rl ts (pos + 1) := ⟨r3, tk3, rw.wf, hp, rw.sep⟩
    have hc3 : ColAt ad H3 ca c := hc1.kp k13 (by simpa using crl)
    have hr3 : RefL H3 rl (rs ++ [⟨ca, t.txt, t.pl⟩]) := by
      refine ⟨_, by rw [e3]; exact upd_same, ?_⟩
      obtain ⟨ws', w1, w2⟩ := hrl1.ex
      rw [hw1] at w1
      injection w1 with w1
      injection w1 with w1
      subst w1
      refine Paired.snoc (Paired.mono (fun v r ⟨b, e, hb⟩ => ⟨b, e, k13 b _ (fun m => no_tupL hw1 b m _ hb) hb⟩) w2) ⟨q, rfl, ?_⟩
      rw [e3, upd_ne (fun z => by rw [z, hw2] at hq; cases hq)]
      exact hq
    have k03 : Kp [a, ca, rl] H H3 := (o.2.2.wider (by simp)).trans (k13.wider (by simp))
    have er : readRef (Sx ts pos) = (let n := isWord "none" (Sx ts (pos + 1)); let r := if n then (Sx ts (pos + 1)).drop 1 else Sx ts (pos + 1); if isWord "cascade" r then .ok (.ref t.pl t.txt n .cascade, r.drop 1) else if isWord "clear" r then (if n then .ok (.ref t.pl t.txt n .clear, r.drop 1) else .error (8, here r)) else .ok (.ref t.pl t.txt n .keep, r)) := by
      unfold readRef
      rw [rn]; rfl
    clear hw hpr hrl1 hc1 hw1 hw2 k13 n2 s2 hq e3
    obtain ⟨t3, rt3, ht3⟩ := rw3.at
    obtain ⟨dx3, h13⟩ := r3.ex
    have isn := is_word rw.wf ht3 "none" (by decide) (by decide)
    walk_at "rd"
    intro nn H4 hy hn4
    obtain ⟨m, rw4, k34, eS, eN⟩ := took rw3 ht3 isn hy hn4
    obtain ⟨da3, ha3⟩ := rw3.r.ex
    have hc4 : ColAt ad H4 ca c := hc3.kp k34 (by simpa using hca)
    have hr4 : RefL H4 rl (rs ++ [⟨ca, t.txt, t.pl⟩]) := hr3.kp k34 (no_tup ha3) (ref_ne ha3 hr3)
    have k04 : Kp [a, ca, rl] H H4 := k03.trans (k34.wider (by simp))
    rw [eN] at er
    simp only [← eS] at er
    clear hy hn4 hc3 hr3 k03 k34 isn rw3 rt3 ht3 h13 r3 tk3 ha3 eS eN
    obtain ⟨dc4, hdc4⟩ := hc4.ex
    walk_at "rd"
    intro H5 e5
    obtain ⟨rw5, hc5, hr5, k45⟩ := colSet (c' := { c with none_ := nn }) rw4 hc4 hr4 e5
    have k05 : Kp [a, ca, rl] H H5 := k04.trans (k45.wider (by simp))
    clear e5 hc4 hr4 rw4 hdc4 k04 k45
    obtain ⟨t5, rt5, ht5⟩ := rw5.at
    obtain ⟨dx5, h15⟩ := rw5.r.ex
    have isc := is_word rw.wf ht5 "cascade" (by decide) (by decide)
    have isl := is_word rw.wf ht5 "clear" (by decide) (by decide)
    walk_at "rd"
    intro b1 H6 hy6 hn6
    obtain ⟨m6, rw6, k56, eS6, eN6⟩ := took rw5 ht5 isc hy6 hn6
    have hc6 : ColAt ad H6 ca { c with none_ := nn } := hc5.kp k56 (by simpa using hca)
    have hr6 : RefL H6 rl (rs ++ [⟨ca, t.txt, t.pl⟩]) := hr5.kp k56 (no_tup h15) (ref_ne h15 hr5)
    have k06 : Kp [a, ca, rl] H H6 := k05.trans (k56.wider (by simp))
    rw [eN6] at er
    obtain ⟨dc6, hdc6⟩ := hc6.ex
    walk_at "rd"
    refine ifb (fun hb => ?_) (fun hb => ?_)
    · rw [if_pos hb] at er
      rw [if_pos hb] at eS6
      rw [← eS6] at er
      walk_at "rd"
      intro H7 e7
      obtain ⟨rw7, hc7, hr7, k67⟩ := colSet (c' := { c with none_ := nn, away := ascii "cascade" }) rw6 hc6 hr6 e7
      walk_at "rd"
      exact k1 _ _ _ _ _ er rw7.lt _ rw7.r rw7.tk hc7 hr7 (k06.trans (k67.wider (by simp)))
    · obtain ⟨_, rfl⟩ := hn6 hb
      rw [if_neg (by rw [hb]; decide)] at er
      walk_at "rd"
      intro b2 H8 hy8 hn8
      obtain ⟨m8, rw8, k58, eS8, eN8⟩ := took rw5 ht5 isl hy8 hn8
      have hc8 : ColAt ad H8 ca { c with none_ := nn } := hc5.kp k58 (by simpa using hca)
      have hr8 : RefL H8 rl (rs ++ [⟨ca, t.txt, t.pl⟩]) := hr5.kp k58 (no_tup h15) (ref_ne h15 hr5)
      have k08 : Kp [a, ca, rl] H H8 := k05.trans (k58.wider (by simp))
      rw [eN8] at er
      obtain ⟨dc8, hdc8⟩ := hc8.ex
      walk_at "rd"
      refine ifb (fun hb2 => ?_) (fun hb2 => ?_)
      · rw [if_pos hb2] at er
        rw [if_pos hb2] at eS8
        rw [← eS8] at er
        walk_at "rd"
        refine ifnb (fun h9 => ?_) (fun h9 => ?_)
        · have h9 : nn = false := h9
          rw [if_neg (by rw [h9]; decide)] at er
          have eh : here (Sx ts m) = t5.pl := by rw [sx_at ht5]; rfl
          rw [eh] at er
          walk_at "rd"
          exact ff_raise fun d H9 s9 e9 => k2 _ er d H9 (k08.trans (Kp.of_same s9)) e9
        · have h9 : nn = true := h9
          rw [if_pos h9] at er
          walk_at "rd"
          intro H9 e9
          obtain ⟨rw9, hc9, hr9, k89⟩ := colSet (c' := { c with none_ := nn, away := ascii "clear" }) rw8 hc8 hr8 e9
          walk_at "rd"
          exact k1 _ _ _ _ _ er rw9.lt _ rw9.r rw9.tk hc9 hr9 (k08.trans (k89.wider (by simp)))
      · obtain ⟨_, rfl⟩ := hn8 hb2
        rw [if_neg (by rw [hb2]; decide)] at er
        walk_at "rd"
        refine k1 _ _ _ _ _ er rw5.lt _ rw5.r rw5.tk ?_ hr5 k05
        have e : awT .keep = c.away := haw.symm
        rw [e]
        exact hc5
  · exact fun d H' s e => k2 _ (by unfold readRef; rw [rn2 hn]; rfl) d H' (s.wider (by simp)) (by rw [fa1, fa2]; exact e)
end Tw
namespace Tw
open PySem PySem.Spec PyProof.Rows L2
open VauowBase (Toks isWord isSign isOver faultAt readName readInt readRange readRef readKind wantWord wantSign ascii reserved here RawColumn RawKind)

variable {P : Program} {w : World} {K : PySem.W.Frag} {mg : Str → Option Value} {base : Heap} {ad : Ads}
/-! ### a column -/
def colS (ns : List (List Nat)) (S : Toks) : Except (Nat × Nat) (RawColumn × Toks) := (readName S).bind fun x => if ns.contains x.1.2 then .error (6, x.1.1) else (wantSign 58 x.2).bind fun q => (readKind q).bind fun k => (wantSign 59 (if isWord "unique" k.2 then k.2.drop 1 else k.2)).bind fun r => .ok ({ name := x.1.2, kind := k.1, unique := isWord "unique" k.2 }, r)
def rcOf (c : RawColumn) : RC := match c.kind with
  | .number lo hi => ⟨c.name, lo, hi, none, false, [], c.unique⟩
  | .ref _ _ n aw => ⟨c.name, -1000000, 1000000, none, n, awT aw, c.unique⟩
def refsOf (ca : Addr) (c : RawColumn) : List Rf := match c.kind with
  | .number _ _ => []
  | .ref p x _ _ => [⟨ca, x, p⟩]
theorem RdW.same {H H' : Hp} {a tl sl rl : Addr} {ts : List Tk} {pos : Nat} (h : RdW ad H a tl sl rl ts pos) (s : Same H H') : RdW ad H' a tl sl rl ts pos := by
  obtain ⟨d, hd⟩ := h.r.ex
  exact ⟨⟨d, s _ _ hd⟩, h.tk.kp (as := []) (Kp.of_same s) (by simp) (by simp), h.wf, h.lt, h.sep⟩
abbrev s_SchemaReader_read_column : Stmt := inClass (top 85) 12
theorem sc_SchemaReader_read_column : FnScope ["self", "earlier", "column"] ["self", "earlier"] (defScope s_SchemaReader_read_column) := ⟨rfl, rfl, rfl, by decide +kernel, rfl, by decide +kernel, by decide +kernel⟩
def sp_read_column (ad : Ads) (K : PySem.W.Frag) : Sp := fun vs H Q E => ∃ (a tl sl rl el : Addr) (ts : List Tk) (pos : Nat) (ws : List V) (ns : List (List Nat)) (rs : List Rf), vs = [.ref a, .ref el] ∧ RdW ad H a tl sl rl ts pos ∧ H el = some (.lst ws) ∧ Paired (NmR K H) ws ns ∧ ns.length ≤ 1000 ∧ RefL H rl rs ∧ rs.length ≤ 500 ∧
  (∀ rc n, colS ns (Sx ts pos) = .ok (rc, Sx ts n) → n < ts.length → ∀ ca H', H ca = none → RdrAt ad H' a tl sl rl n → TokL H' tl ts → ColAt ad H' ca (rcOf rc) → RefL H' rl (rs ++ refsOf ca rc) → Kp [a, rl] H H' → Q (.ref ca) H') ∧
  (∀ f, colS ns (Sx ts pos) = .error f → Rz ad [a, rl] H E f.1 f.2)
theorem ok_read_column {f : Addr} {fd : FuncData} (T : Tp K mg ad)
    (m_SchemaReader_take_new_name : Mc P w K mg base (L2.CX P w) 5 ad.SchemaReader "take_new_name" ["self", "earlier"] (sp_new_name ad K))
    (m_SchemaReader_take_if : Mc P w K mg base CX0 2 ad.SchemaReader "take_if" ["self", "wanted"] (sp_take_if2 ad))
    (m_SchemaReader_take : Mc P w K mg base (L2.CX P w) 4 ad.SchemaReader "take" ["self", "wanted"] (sp_take ad))
    (m_SchemaReader_read_range : Mc P w K mg base (L2.CX P w) 5 ad.SchemaReader "read_range" ["self", "column"] (sp_read_range ad))
    (m_SchemaReader_read_reference : Mc P w K mg base (L2.CX P w) 5 ad.SchemaReader "read_reference" ["self", "column"] (sp_read_reference ad))
    (i_Column : Ic P w K mg base 1 ad.Column ["self", "name"] (sp_Column_init ad))
    (F : Fun K "read_column" "SchemaReader.read_column" s_SchemaReader_read_column f fd) : FnOk P w K mg base (L2.CX P w) 6 f fd ["self", "earlier"] (sp_read_column ad K) := by
  refine F.okX sc_SchemaReader_read_column (fun vs H Q E h => ?_) (fun cdv A outer s H vs Q E hr h => ⟨_, (pss_cons (ps_set (i := 2) sc_SchemaReader_read_column.nd rfl (.inl rfl) (pe_mkc i_Column (hr.mono (by decide)) (by rfl) T.g_Column (pa_cons (pe_mc (pv 0) T.cl_SchemaReader m_SchemaReader_take_new_name (hr.mono (by decide)) (passes_call (takes_of rfl rfl rfl rfl) (fun _ _ _ _ h => h)) (pa_cons (pv 1) pa_nil)) pa_nil))) (pss_cons (ps_expr (pe_mc (pv 0) T.cl_SchemaReader m_SchemaReader_take (hr.mono (by decide)) (passes_call (takes_of rfl rfl rfl rfl) (fun _ _ _ _ h => h)) (pa_cons pe_str pa_nil))) (pss_cutO (ps_if (pt_val (pe_mc (pv 0) T.cl_SchemaReader m_SchemaReader_take_if (hr.mono (by decide)) pass0 (pa_cons pe_str pa_nil))) (pss_one (ps_expr (pe_mc (pv 0) T.cl_SchemaReader m_SchemaReader_read_range (hr.mono (by decide)) (passes_call (takes_of rfl rfl rfl rfl) (fun _ _ _ _ h => h)) (pa_cons (pv 2) pa_nil)))) (pss_cons (ps_expr (pe_mc (pv 0) T.cl_SchemaReader m_SchemaReader_take (hr.mono (by decide)) (passes_call (takes_of rfl rfl rfl rfl) (fun _ _ _ _ h => h)) (pa_cons pe_str pa_nil))) (pss_one (ps_expr (pe_mc (pv 0) T.cl_SchemaReader m_SchemaReader_read_reference (hr.mono (by decide)) (passes_call (takes_of rfl rfl rfl rfl) (fun _ _ _ _ h => h)) (pa_cons (pv 2) pa_nil)))))) (pss_cons (ps_fl T.cl_Column T.n_Column_unique (pv 2) (pe_mc (pv 0) T.cl_SchemaReader m_SchemaReader_take_if (hr.mono (by decide)) pass0 (pa_cons pe_str pa_nil))) (pss_cons (ps_expr (pe_mc (pv 0) T.cl_SchemaReader m_SchemaReader_take (hr.mono (by decide)) (passes_call (takes_of rfl rfl rfl rfl) (fun _ _ _ _ h => h)) (pa_cons pe_str pa_nil))) (pss_one (ps_ret (pv 2)))))))), ?_⟩)
  · obtain ⟨a, tl, sl, rl, el, ts, pos, ws, ns, rs, rfl, _⟩ := h
    rfl
  obtain ⟨a, tl, sl, rl, el, ts, pos, ws, ns, rs, rfl, rw, hel, hpr, hns, hrl, hrs, k1, k2⟩ := h
  obtain ⟨dx, h1⟩ := rw.r.ex
  walk_at "rd"
  refine ⟨fun p n rn hp hnc H1 o => ?_, fun p n rn hc => ?_, fun f e => ?_⟩
  · intro x d1 nx nd ne
    walk_at "rd"
    intro H3 hc3 k23
    have s13 : Same H1 H3 := fun b u e => by
      have n1 : b ≠ x := ne_of_none e nx
      refine k23 b u (by simpa using n1) ?_
      rw [upd_ne n1, upd_ne (ne_of_none e nd)]; exact e
    clear k23
    obtain ⟨d01, hd01⟩ := o.1.ex
    have xa : x ≠ a := fun z => by rw [z, hd01] at nx; cases nx
    have hx0 : H x = none := by
      cases e : H x with
      | none => rfl
      | some u => rw [o.2.2 x u (by simpa using xa) e] at nx; cases nx
    have rw1 : RdW ad H1 a tl sl rl ts (pos + 1) := o.at' rw hp
    have hrl1 : RefL H1 rl rs := hrl.kp o.2.2 (no_tup h1) (ref_ne h1 hrl)
    have rw3 : RdW ad H3 a tl sl rl ts (pos + 1) := rw1.same s13
    have hrl3 : RefL H3 rl rs := hrl1.kp (as := []) (Kp.of_same s13) (by simp) (by simp)
    have k03 : Kp [a, x, rl] H H3 := (o.2.2.wider (by simp)).trans (Kp.of_same s13)
    have e0 : colS ns (Sx ts pos) = (wantSign 58 (Sx ts (pos + 1))).bind fun q => (readKind q).bind fun k => (wantSign 59 (if isWord "unique" k.2 then k.2.drop 1 else k.2)).bind fun r => .ok ({ name := n, kind := k.1, unique := isWord "unique" k.2 }, r) := by
      unfold colS
      rw [rn]
      show (if ns.contains n = true then _ else _) = _
      rw [if_neg (by rw [hnc]; decide)]
    have k2' : ∀ f, colS ns (Sx ts pos) = .error f → ∀ {H' : Hp} {bs : List Addr}, Kp [a, x, rl] H H' → (∀ y ∈ bs, y ∈ [a, x, rl]) → Rz ad bs H' E f.1 f.2 := fun f e H' bs k hb d H2 k' e' => by
      refine k2 f e d H2 (fun b u nb eb => ?_) e'
      have nx : b ≠ x := fun z => by rw [z, hx0] at eb; cases eb
      refine k' b u (fun m => ?_) (k b u ?_ eb)
      · have := hb b m
        simp only [List.mem_cons, List.not_mem_nil, or_false] at this nb
        rcases this with h | h | h
        · exact nb (.inl h)
        · exact nx h
        · exact nb (.inr h)
      · simp only [List.mem_cons, List.not_mem_nil, or_false] at nb ⊢
        rintro (h | h | h)
        · exact nb (.inl h)
        · exact nx h
        · exact nb (.inr h)
    clear hrl1 rw1 s13 nd
    obtain ⟨t3, rt3, ht3⟩ := rw3.at
    obtain ⟨dx3, h13⟩ := rw3.r.ex
    have is3 := is_sign rw.wf ht3 58 (by decide)
    obtain ⟨fa1, fa2⟩ := fault_at rw.wf ht3
    walk_at "rd"
    refine ⟨fun hm H4 o4 => ?_, fun hm => ?_⟩
    · obtain ⟨l3, p3⟩ := is3.2 hm
      have e4 : wantSign 58 (Sx ts (pos + 1)) = .ok (Sx ts (pos + 2)) := by
        unfold wantSign
        rw [if_pos (is3.1.mpr hm), sx_next ht3 l3]
      have e0 : colS ns (Sx ts pos) = (readKind (Sx ts (pos + 2))).bind fun k => (wantSign 59 (if isWord "unique" k.2 then k.2.drop 1 else k.2)).bind fun r => .ok ({ name := n, kind := k.1, unique := isWord "unique" k.2 }, r) := by
        rw [e0, e4]; rfl
      have rw4 : RdW ad H4 a tl sl rl ts (pos + 2) := o4.at' rw3 p3
      have hc4 : ColAt ad H4 x (freshC n) := hc3.kp o4.2.2 (by simpa using xa)
      have hrl4 : RefL H4 rl rs := hrl3.kp o4.2.2 (no_tup h13) (ref_ne h13 hrl3)
      have k04 : Kp [a, x, rl] H H4 := k03.trans (o4.2.2.wider (by simp))
      clear hc3 hrl3 k03 e4 is3 rw3 rt3 h13 o4
      obtain ⟨t4, rt4, ht4⟩ := rw4.at
      obtain ⟨dx4, h14⟩ := rw4.r.ex
      have is4 := is_word rw.wf ht4 "number" (by decide) (by decide)
      walk_at "rd"
      refine ⟨⟨fun σ' H' => σ' = [some (.ref a), some (.ref el), some (.ref x)] ∧ ∃ k m, readKind (Sx ts (pos + 2)) = .ok (k, Sx ts m) ∧ RdW ad H' a tl sl rl ts m ∧ ColAt ad H' x (rcOf ⟨n, k, false⟩) ∧ RefL H' rl (rs ++ refsOf x ⟨n, k, false⟩) ∧ Kp [a, x, rl] H H', ?_, ?_⟩⟩
      · walk_at "rd"
        intro b H5 hy hn
        obtain ⟨m5, rw5, k45, eS, eN⟩ := took rw4 ht4 is4 hy hn
        have hc5 : ColAt ad H5 x (freshC n) := hc4.kp k45 (by simpa using xa)
        have hr5 : RefL H5 rl rs := hrl4.kp k45 (no_tup h14) (ref_ne h14 hrl4)
        have k05 : Kp [a, x, rl] H H5 := k04.trans (k45.wider (by simp))
        have ek : readKind (Sx ts (pos + 2)) = if b then readRange (Sx ts m5) else if isWord "ref" (Sx ts (pos + 2)) then readRef ((Sx ts (pos + 2)).drop 1) else .error (faultAt (Sx ts (pos + 2))) := by
          unfold readKind
          rw [eN, eS]
          cases b <;> rfl
        obtain ⟨dx5, h15⟩ := rw5.r.ex
        walk_at "rd"
        refine ifb (fun hb => ?_) (fun hb => ?_)
        · rw [if_pos hb] at ek
          walk_at "rd"
          refine ⟨fun lo hi m6 e6 p6 H6 r6 tk6 hc6 k56 => ?_, fun f e6 => ?_⟩
          · rw [e6] at ek
            have hr6 : RefL H6 rl rs := hr5.kp k56 (fun y hy xs e => by
              simp only [List.mem_cons, List.not_mem_nil, or_false] at hy
              rcases hy with rfl | rfl
              · rw [h15] at e; cases e
              · obtain ⟨d, hd⟩ := hc5.ex
                rw [hd] at e; cases e) (fun m => by
              simp only [List.mem_cons, List.not_mem_nil, or_false] at m
              obtain ⟨ww, h7, _⟩ := hr5.ex
              rcases m with rfl | rfl
              · rw [h15] at h7; cases h7
              · obtain ⟨d, hd⟩ := hc5.ex
                rw [hd] at h7; cases h7)
            refine ⟨⟨rfl, _, m6, ek, ⟨r6, tk6, rw.wf, p6, rw.sep⟩, hc6, ?_, k05.trans (k56.wider (by simp))⟩⟩
            rw [show refsOf x ⟨n, .number lo hi, false⟩ = [] from rfl, List.append_nil]
            exact hr6
          · rw [e6] at ek
            exact k2' f (by rw [e0, ek]; rfl) k05 (by simp)
        · obtain ⟨_, rfl⟩ := hn hb
          rw [if_neg (by rw [hb]; decide)] at ek
          have isr := is_word rw.wf ht4 "ref" (by decide) (by decide)
          obtain ⟨fb1, fb2⟩ := fault_at rw.wf ht4
          walk_at "rd"
          refine ⟨fun hm6 H6 o6 => ?_, fun hm6 => ?_⟩
          · obtain ⟨l6, p6⟩ := isr.2 hm6
            rw [if_pos (isr.1.mpr hm6), sx_next ht4 l6] at ek
            have rw6 : RdW ad H6 a tl sl rl ts (pos + 2 + 1) := o6.at' rw4 p6
            have hc6 : ColAt ad H6 x (freshC n) := hc4.kp o6.2.2 (by simpa using xa)
            have hr6 : RefL H6 rl rs := hrl4.kp o6.2.2 (no_tup h14) (ref_ne h14 hrl4)
            have k06 : Kp [a, x, rl] H H6 := k04.trans (o6.2.2.wider (by simp))
            obtain ⟨dx6, h16⟩ := rw6.r.ex
            walk_at "rd"
            refine ⟨fun p7 x7 n7 aw7 m7 e7 q7 H7 r7 tk7 hc7 hr7 k67 => ?_, fun f e7 => ?_⟩
            · rw [e7] at ek
              exact ⟨⟨rfl, _, m7, ek, ⟨r7, tk7, rw.wf, q7, rw.sep⟩, hc7, hr7, k06.trans k67⟩⟩
            · rw [e7] at ek
              exact k2' f (by rw [e0, ek]; rfl) k06 (by simp)
          · rw [if_neg (fun z => hm6 (isr.1.mp z))] at ek
            have q := k2' (faultAt (Sx ts (pos + 2))) (by rw [e0, ek]; rfl) k04 (bs := []) (by simp)
            rw [fb1, fb2] at q
            exact q
      · rintro σ5 H5 ⟨rfl, k, m, ek, rw5, hc5, hr5, k05⟩
        have e0 : colS ns (Sx ts pos) = (wantSign 59 (if isWord "unique" (Sx ts m) then (Sx ts m).drop 1 else Sx ts m)).bind fun r => .ok ({ name := n, kind := k, unique := isWord "unique" (Sx ts m) }, r) := by
          rw [e0, ek]; rfl
        obtain ⟨t5, rt5, ht5⟩ := rw5.at
        obtain ⟨dx5, h15⟩ := rw5.r.ex
        have isu := is_word rw.wf ht5 "unique" (by decide) (by decide)
        walk_at "rd"
        intro b H6 hy hn
        obtain ⟨m6, rw6, k56, eS, eN⟩ := took rw5 ht5 isu hy hn
        have hc6 : ColAt ad H6 x (rcOf ⟨n, k, false⟩) := hc5.kp k56 (by simpa using xa)
        have hr6 : RefL H6 rl (rs ++ refsOf x ⟨n, k, false⟩) := hr5.kp k56 (no_tup h15) (ref_ne h15 hr5)
        have k06 : Kp [a, x, rl] H H6 := k05.trans (k56.wider (by simp))
        rw [eN, ← eS] at e0
        obtain ⟨dc6, hdc6⟩ := hc6.ex
        walk_at "rd"
        intro H7 e7
        have ec : ({ rcOf ⟨n, k, false⟩ with uniq := b } : RC) = rcOf ⟨n, k, b⟩ := by cases k <;> rfl
        have er : refsOf x ⟨n, k, false⟩ = refsOf x ⟨n, k, b⟩ := by cases k <;> rfl
        obtain ⟨rw7, hc7, hr7, k67⟩ := colSet (c' := { rcOf ⟨n, k, false⟩ with uniq := b }) rw6 hc6 hr6 e7
        rw [ec] at hc7
        rw [er] at hr7
        have k07 : Kp [a, x, rl] H H7 := k06.trans (k67.wider (by simp))
        clear e7 hdc6 hc6 hr6 rw6 rw5 rt5 h15 hy hn hc5 hr5
        obtain ⟨t7, rt7, ht7⟩ := rw7.at
        obtain ⟨dx7, h17⟩ := rw7.r.ex
        have is7 := is_sign rw.wf ht7 59 (by decide)
        obtain ⟨fb1, fb2⟩ := fault_at rw.wf ht7
        walk_at "rd"
        refine ⟨fun hm8 H8 o8 => ?_, fun hm8 => ?_⟩
        · obtain ⟨l8, p8⟩ := is7.2 hm8
          have e8 : wantSign 59 (Sx ts m6) = .ok (Sx ts (m6 + 1)) := by
            unfold wantSign
            rw [if_pos (is7.1.mpr hm8), sx_next ht7 l8]
          have e0 : colS ns (Sx ts pos) = .ok ({ name := n, kind := k, unique := b }, Sx ts (m6 + 1)) := by rw [e0, e8]; rfl
          walk_at "rd"
          refine k1 _ _ e0 p8 x H8 hx0 o8.1 o8.2.1 (hc7.kp o8.2.2 (by simpa using xa)) (hr7.kp o8.2.2 (no_tup h17) (ref_ne h17 hr7)) ?_
          intro b u nb eb
          have nx : b ≠ x := fun z => by rw [z, hx0] at eb; cases eb
          refine (k07.trans (o8.2.2.wider (by simp))) b u ?_ eb
          simp only [List.mem_cons, List.not_mem_nil, or_false] at nb ⊢
          rintro (h | h | h)
          · exact nb (.inl h)
          · exact nx h
          · exact nb (.inr h)
        · have q := k2' (faultAt (Sx ts m6)) (by rw [e0]; unfold wantSign; rw [if_neg (fun z => hm8 (is7.1.mp z))]; rfl) k07 (bs := []) (by simp)
          rw [fb1, fb2] at q
          exact q
    · have q := k2' (faultAt (Sx ts (pos + 1))) (by rw [e0]; unfold wantSign; rw [if_neg (fun z => hm (is3.1.mp z))]; rfl) k03 (bs := []) (by simp)
      rw [fa1, fa2] at q
      exact q
  · exact (k2 (6, p) (by unfold colS; rw [rn]; exact if_pos hc)).sub (Kp.refl _ _) (by simp)
  · exact (k2 f (by unfold colS; rw [e]; rfl)).sub (Kp.refl _ _) (by simp)
end Tw
namespace Tw
open PySem PySem.Spec PyProof.Rows L2
open VauowBase (Toks isWord isSign isOver faultAt readName readInt readRange readRef readKind wantWord wantSign ascii reserved here RawColumn RawKind RawTable readColumns)

variable {P : Program} {w : World} {K : PySem.W.Frag} {mg : Str → Option Value} {base : Heap} {ad : Ads}
/-! ### a table -/
def tabS (nt : Nat) (ns : List (List Nat)) (S : Toks) : Except (Nat × Nat) (RawTable × Toks) := (wantWord "table" S).bind fun q => if nt = 4 then .error (5, here S) else (readName q).bind fun x => if ns.contains x.1.2 then .error (6, x.1.1) else (wantSign 123 x.2).bind fun r => (readColumns 4 [] r).bind fun c => .ok ({ name := x.1.2, columns := c.1 }, c.2)
theorem readColumns_succ (n : Nat) (l : List RawColumn) (S : Toks) : readColumns (n + 1) l S = if isSign 125 S then .ok (l, S.drop 1) else (colS (l.map (·.name)) S).bind fun c => readColumns n (l ++ [c.1]) c.2 := by
  show (if isSign 125 S = true then _ else _) = _
  by_cases h : isSign 125 S = true
  · rw [if_pos h, if_pos h]
  · rw [if_neg h, if_neg h]
    unfold colS
    cases e1 : readName S with
    | error f => rfl
    | ok x =>
      show (if (l.any fun c => c.name == x.1.2) = true then _ else _) = Except.bind (if (l.map (·.name)).contains x.1.2 = true then _ else _) _
      have ea : (l.any fun c => c.name == x.1.2) = (l.map (·.name)).contains x.1.2 := by
        rw [List.contains_eq_any_beq, List.any_map]
        congr 1
        funext c
        exact Bool.beq_comm ..
      rw [ea]
      by_cases h2 : (l.map (·.name)).contains x.1.2 = true
      · rw [if_pos h2, if_pos h2]; rfl
      · rw [if_neg h2, if_neg h2]
        cases e2 : wantSign 58 x.2 with
        | error f => rfl
        | ok q =>
          show (readKind q).bind _ = Except.bind ((readKind q).bind _) _
          cases e3 : readKind q with
          | error f => rfl
          | ok k =>
            show (wantSign 59 (if isWord "unique" k.2 = true then k.2.drop 1 else k.2)).bind _ = Except.bind ((wantSign 59 (if isWord "unique" k.2 = true then k.2.drop 1 else k.2)).bind _) _
            cases e4 : wantSign 59 (if isWord "unique" k.2 = true then k.2.drop 1 else k.2) with
            | error f => rfl
            | ok r => rfl
structure TI where
  ta : Addr
  cl : Addr
  cas : List Addr
  rt : RawTable
structure TabAt (ad : Ads) (H : Hp) (g : Addr → RawColumn → RC) (x : TI) : Prop where
  obj : ∃ dx, H x.ta = some (.ins ad.Table dx (tabF x.rt.name x.cl))
  lst : H x.cl = some (.lst (x.cas.map V.ref))
  cols : Paired (fun ca c => ColAt ad H ca (g ca c)) x.cas x.rt.columns
def rawG : Addr → RawColumn → RC := fun _ c => rcOf c
def refsZ (cas : List Addr) (cs : List RawColumn) : List Rf := (cas.zip cs).flatMap fun p => refsOf p.1 p.2
theorem refsZ_snoc (cas : List Addr) (cs : List RawColumn) (ca : Addr) (c : RawColumn) (h : cas.length = cs.length) : refsZ (cas ++ [ca]) (cs ++ [c]) = refsZ cas cs ++ refsOf ca c := by
  unfold refsZ
  rw [List.zip_append h, List.flatMap_append]
  simp
theorem refsOf_len (ca : Addr) (c : RawColumn) : (refsOf ca c).length ≤ 1 := by
  unfold refsOf
  cases c.kind <;> simp
theorem refsZ_len : ∀ (cas : List Addr) (cs : List RawColumn), (refsZ cas cs).length ≤ cs.length
  | [], cs => Nat.zero_le _
  | _ :: _, [] => Nat.le_refl 0
  | ca :: cas, c :: cs => by
    have ih := refsZ_len cas cs
    have h := refsOf_len ca c
    show ((refsOf ca c) ++ refsZ cas cs).length ≤ _
    rw [List.length_append, List.length_cons]; omega
/-- names of objects in a list -/
theorem nm_cols (T : Tp K mg ad) {H : Hp} {g : Addr → RawColumn → RC} (hg : ∀ ca c, (g ca c).name = c.name) : ∀ {cas : List Addr} {cs : List RawColumn}, Paired (fun ca c => ColAt ad H ca (g ca c)) cas cs → Paired (NmR K H) (cas.map V.ref) (cs.map (·.name))
  | _, _, .nil => .nil
  | _, _, .cons (a := ca) (b := c) h r => by
    obtain ⟨dx, e⟩ := h.ex
    refine .cons ⟨ca, ad.Column, dx, _, rfl, e, T.cl_Column, T.n_Column_name, ?_⟩ (nm_cols T hg r)
    show some (V.str (Tw.T (g ca c).name)) = some (V.str (Tw.T c.name))
    rw [hg]
theorem nm_tabs (T : Tp K mg ad) {H : Hp} {g : Addr → RawColumn → RC} : ∀ {xs : List TI}, (∀ x ∈ xs, TabAt ad H g x) → Paired (NmR K H) (xs.map fun x => V.ref x.ta) (xs.map (·.rt.name))
  | [], _ => .nil
  | x :: xs, h => by
    obtain ⟨dx, e⟩ := (h x (by simp)).obj
    exact .cons ⟨x.ta, ad.Table, dx, _, rfl, e, T.cl_Table, T.n_Table_name, rfl⟩ (nm_tabs T fun y hy => h y (by simp [hy]))
theorem cols_kp {g : Addr → RawColumn → RC} {as : List Addr} {H H' : Hp} (k : Kp as H H') (n : ∀ a ∈ as, ∀ C dx fs, H a = some (.ins C dx fs) → C = ad.SchemaReader ∧ ∃ tl pos sl rl, fs = rdF tl pos sl rl) {cas : List Addr} {cs : List RawColumn} (h : Paired (fun ca c => ColAt ad H ca (g ca c)) cas cs) : Paired (fun ca c => ColAt ad H' ca (g ca c)) cas cs :=
  Paired.mono (fun ca c (hc : ColAt ad H ca (g ca c)) => by
    refine hc.kp k fun m => ?_
    obtain ⟨dx, e⟩ := hc.ex
    obtain ⟨_, tl, pos, sl, rl, e2⟩ := n ca m _ _ _ e
    have e3 := congrArg (fun l : List (Str × V) => l.length) e2
    exact absurd e3 (by show (7 : Nat) ≠ 4; decide)) h
theorem only_rdr {H : Hp} {a tl sl rl : Addr} {pos : Nat} {rs : List Rf} (r : RdrAt ad H a tl sl rl pos) (hr : RefL H rl rs) : ∀ b ∈ [a, rl], ∀ C dx fs, H b = some (.ins C dx fs) → C = ad.SchemaReader ∧ ∃ tl pos sl rl, fs = rdF tl pos sl rl := by
  intro b hb C dx fs e
  simp only [List.mem_cons, List.not_mem_nil, or_false] at hb
  rcases hb with rfl | rfl
  · obtain ⟨d, hd⟩ := r.ex
    rw [hd] at e
    injection e with e; injection e with e1 e2 e3
    exact ⟨e1.symm, _, _, _, _, e3.symm⟩
  · obtain ⟨ws, hw, _⟩ := hr.ex
    rw [hw] at e; cases e
theorem tookS {H3 H4 : Hp} {a tl sl rl : Addr} {ts : List Tk} {q : Nat} {t : Tk} {c : Nat} {b : Bool} (rw : RdW ad H3 a tl sl rl ts q) (ht : ts[q]? = some t) (isn : (isSign c (Sx ts q) = true ↔ t.txt = [c]) ∧ (t.txt = [c] → isLast t = false ∧ q + 1 < ts.length))
    (hy : b = true → t.txt = [c] ∧ OnR ad a tl sl rl ts (q + 1) H3 H4) (hn : b = false → t.txt ≠ [c] ∧ H4 = H3) :
    ∃ m, RdW ad H4 a tl sl rl ts m ∧ Kp [a] H3 H4 ∧ Sx ts m = (if b then (Sx ts q).drop 1 else Sx ts q) ∧ isSign c (Sx ts q) = b := by
  cases b with
  | true =>
    obtain ⟨e, o⟩ := hy rfl
    obtain ⟨l, p⟩ := isn.2 e
    exact ⟨q + 1, o.at' rw p, o.2.2, by rw [if_pos rfl, sx_next ht l], isn.1.mpr e⟩
  | false =>
    obtain ⟨e, rfl⟩ := hn rfl
    exact ⟨q, rw, Kp.refl _ _, rfl, Bool.eq_false_iff.mpr fun z => e (isn.1.mp z)⟩
theorem fresh_of {as : List Addr} {H H' : Hp} {c : Addr} (k : Kp as H H') (h : H' c = none) (n : ∀ y ∈ as, H' y ≠ none) : H c = none := by
  cases e : H c with
  | none => rfl
  | some u =>
    have : H' c = some u := k c u (fun m => n c m h) e
    rw [h] at this; cases this
theorem paired_mem {α β : Type} {R : α → β → Prop} : ∀ {l : List α} {m : List β}, Paired R l m → ∀ {x : α}, x ∈ l → ∃ y ∈ m, R x y
  | _, _, .nil, x, h => by cases h
  | _, _, .cons (b := b) hab r, x, h => by
    rcases List.mem_cons.mp h with rfl | h
    · exact ⟨b, by simp, hab⟩
    · obtain ⟨y, hy, hr⟩ := paired_mem r h
      exact ⟨y, by simp [hy], hr⟩
/-- what is changed besides was not there at first -/
theorem Kp.trans' {as bs : List Addr} {H H1 H2 : Hp} (a : Kp as H H1) (b : Kp bs H1 H2) (n : ∀ y ∈ bs, H y = none) : Kp as H H2 := fun c u nc e => b c u (fun m => by rw [n c m] at e; cases e) (a c u nc e)
abbrev s_SchemaReader_read_table : Stmt := inClass (top 85) 11
theorem sc_SchemaReader_read_table : FnScope ["self", "place", "name", "columns"] ["self"] (defScope s_SchemaReader_read_table) := ⟨rfl, rfl, rfl, by decide +kernel, rfl, by decide +kernel, by decide +kernel⟩
def sp_read_table (ad : Ads) : Sp := fun vs H Q E => ∃ (a tl sl rl : Addr) (ts : List Tk) (pos : Nat) (xs : List TI) (rs : List Rf), vs = [.ref a] ∧ RdW ad H a tl sl rl ts pos ∧ H sl = some (.lst (xs.map fun x => V.ref x.ta)) ∧ (∀ x ∈ xs, TabAt ad H rawG x) ∧ xs.length ≤ 4 ∧ RefL H rl rs ∧ rs.length ≤ 100 ∧
  (∀ rt n, tabS xs.length (xs.map (·.rt.name)) (Sx ts pos) = .ok (rt, Sx ts n) → n < ts.length → ∀ (x : TI) (H' : Hp), x.rt = rt → TabAt ad H' rawG x → RdrAt ad H' a tl sl rl n → TokL H' tl ts → RefL H' rl (rs ++ refsZ x.cas rt.columns) → H x.ta = none → H x.cl = none → (∀ c ∈ x.cas, H c = none) → x.cas.Nodup → Kp [a, rl] H H' → Q (.ref x.ta) H') ∧
  (∀ f, tabS xs.length (xs.map (·.rt.name)) (Sx ts pos) = .error f → Rz ad [a, rl] H E f.1 f.2)
theorem ok_read_table {f : Addr} {fd : FuncData} (T : Tp K mg ad)
    (m_SchemaReader_place_here : Mc P w K mg base CX0 1 ad.SchemaReader "place_here" ["self"] (sp_here ad fun t => .int t.pl))
    (m_SchemaReader_take_new_name : Mc P w K mg base (L2.CX P w) 5 ad.SchemaReader "take_new_name" ["self", "earlier"] (sp_new_name ad K))
    (m_SchemaReader_take_if : Mc P w K mg base CX0 2 ad.SchemaReader "take_if" ["self", "wanted"] (sp_take_if2 ad))
    (m_SchemaReader_take : Mc P w K mg base (L2.CX P w) 4 ad.SchemaReader "take" ["self", "wanted"] (sp_take ad))
    (m_SchemaReader_read_column : Mc P w K mg base (L2.CX P w) 6 ad.SchemaReader "read_column" ["self", "earlier"] (sp_read_column ad K))
    (x_FirstFault : Xc P w K mg base 1 ad.FirstFault ["self", "kind", "place"] (sp_FirstFault_init ad.FirstFault))
    (i_Table : Ic P w K mg base 1 ad.Table ["self", "name", "columns"] (sp_Table_init ad))
    (F : Fun K "read_table" "SchemaReader.read_table" s_SchemaReader_read_table f fd) : FnOk P w K mg base (L2.CX P w) 7 f fd ["self"] (sp_read_table ad) := by
  refine F.okX sc_SchemaReader_read_table (fun vs H Q E h => ?_) (fun cdv A outer s H vs Q E hr h => ⟨_, (pss_cons (ps_set (i := 1) sc_SchemaReader_read_table.nd rfl (.inl rfl) (pe_mc0 (pv 0) T.cl_SchemaReader m_SchemaReader_place_here (hr.mono (by decide)) pass0)) (pss_cons (ps_expr (pe_mc (pv 0) T.cl_SchemaReader m_SchemaReader_take (hr.mono (by decide)) (passes_call (takes_of rfl rfl rfl rfl) (fun _ _ _ _ h => h)) (pa_cons pe_str pa_nil))) (pss_cons (ps_if (pt_cmpR op_eq (pe_callB call_len_seq (by rfl) T.b_len (by decide +kernel) (pa_cons (pe_fl T.cl_SchemaReader T.n_SchemaReader_schema (pv 0)) pa_nil)) (pe_cst (by rfl) T.k_MOST_TABLES) (nomark _)) (pss_one (ps_raise rfl (takes_of rfl rfl rfl rfl) (pmk_x T.e_FirstFault x_FirstFault (hr.mono (by decide)) T.g_FirstFault (pa_cons (pe_cst (by rfl) T.k_TOO_MANY) (pa_cons (pv 1) pa_nil))))) pss_nil) (pss_cons (ps_set (i := 2) sc_SchemaReader_read_table.nd rfl (.inl rfl) (pe_mc (pv 0) T.cl_SchemaReader m_SchemaReader_take_new_name (hr.mono (by decide)) (passes_call (takes_of rfl rfl rfl rfl) (fun _ _ _ _ h => h)) (pa_cons (pe_fl T.cl_SchemaReader T.n_SchemaReader_schema (pv 0)) pa_nil))) (pss_cons (ps_expr (pe_mc (pv 0) T.cl_SchemaReader m_SchemaReader_take (hr.mono (by decide)) (passes_call (takes_of rfl rfl rfl rfl) (fun _ _ _ _ h => h)) (pa_cons pe_str pa_nil))) (pss_cons (ps_set (i := 3) sc_SchemaReader_read_table.nd rfl (.inl rfl) (pe_lst pa_nil)) (pss_cons (ps_whileO (passes_of rfl) (pt_not (pt_val (pe_mc (pv 0) T.cl_SchemaReader m_SchemaReader_take_if (hr.mono (by decide)) pass0 (pa_cons pe_str pa_nil)))) (pss_cons (ps_if (pt_cmpR op_eq (pe_callB call_len_seq (by rfl) T.b_len (by decide +kernel) (pa_cons (pv 3) pa_nil)) (pe_cst (by rfl) T.k_MOST_COLUMNS) (nomark _)) (pss_one (ps_raise rfl (takes_of rfl rfl rfl rfl) (pmk_x T.e_FirstFault x_FirstFault (hr.mono (by decide)) T.g_FirstFault (pa_cons (pe_cst (by rfl) T.k_TOO_MANY) (pa_cons (pe_mc0 (pv 0) T.cl_SchemaReader m_SchemaReader_place_here (hr.mono (by decide)) pass0) pa_nil))))) pss_nil) (pss_one (ps_expr (pe_bm PySem.F.plainAttrs_list PySem.F.slot_list_append PySem.F.type_list_append mt_appL (pv 3) (pa_cons (pe_mc (pv 0) T.cl_SchemaReader m_SchemaReader_read_column (hr.mono (by decide)) (passes_call (takes_of rfl rfl rfl rfl) (fun _ _ _ _ h => h)) (pa_cons (pv 3) pa_nil)) pa_nil)))))) (pss_one (ps_ret (pe_mkc i_Table (hr.mono (by decide)) (by rfl) T.g_Table (pa_cons (pv 2) (pa_cons (pv 3) pa_nil)))))))))))), ?_⟩)
  · obtain ⟨a, tl, sl, rl, ts, pos, xs, rs, rfl, _⟩ := h
    rfl
  obtain ⟨a, tl, sl, rl, ts, pos, xs, rs, rfl, rw, hsl, hxs, hx4, hrl, hrs, k1, k2⟩ := h
  obtain ⟨t, rt, ht⟩ := rw.at
  obtain ⟨dx, h1⟩ := rw.r.ex
  obtain ⟨fa1, fa2⟩ := fault_at rw.wf ht
  have ist := is_word rw.wf ht "table" (by decide) (by decide)
  walk_at "rd"
  refine ⟨fun hm H1 o => ?_, fun hm => ?_⟩
  · obtain ⟨l1, p1⟩ := ist.2 hm
    have e0 : tabS xs.length (xs.map (·.rt.name)) (Sx ts pos) = if xs.length = 4 then .error (5, t.pl) else (readName (Sx ts (pos + 1))).bind fun x => if (xs.map (·.rt.name)).contains x.1.2 then .error (6, x.1.1) else (wantSign 123 x.2).bind fun r => (readColumns 4 [] r).bind fun c => .ok ({ name := x.1.2, columns := c.1 }, c.2) := by
      unfold tabS wantWord
      rw [if_pos (ist.1.mpr hm), sx_next ht l1]
      have eh : here (Sx ts pos) = t.pl := by rw [sx_at ht]; rfl
      show (if xs.length = 4 then Except.error (5, here (Sx ts pos)) else _) = _
      rw [eh]
    have rw1 : RdW ad H1 a tl sl rl ts (pos + 1) := o.at' rw p1
    have na : ∀ {b : Addr} {u : HO}, H b = some u → (∀ C d f, u ≠ .ins C d f) → H1 b = some u := fun {b u} e hu => o.2.2 b u (fun m => by
      obtain rfl := List.mem_singleton.mp m
      rw [h1] at e
      injection e with e
      exact hu _ _ _ e.symm) e
    have hsl1 := na hsl (by intro C d f z; cases z)
    have hrl1 : RefL H1 rl rs := hrl.kp o.2.2 (no_tup h1) (ref_ne h1 hrl)
    have hxs1 : ∀ x ∈ xs, TabAt ad H1 rawG x := fun x hx => by
      obtain ⟨⟨d, e1⟩, e2, e3⟩ := hxs x hx
      refine ⟨⟨d, o.2.2 _ _ (fun m => ?_) e1⟩, na e2 (by intro C d f z; cases z), cols_kp (o.2.2.wider (bs := [a, rl]) (by simp)) (only_rdr rw.r hrl) e3⟩
      rw [List.mem_singleton.mp m, h1] at e1
      injection e1 with e1; injection e1 with _ _ e1
      exact absurd (congrArg List.length e1) (by show (4 : Nat) ≠ 2; decide)
    have hpn := nm_tabs T hxs1
    obtain ⟨dx1, h11⟩ := rw1.r.ex
    have hlx : (xs.map fun x => V.ref x.ta).length = xs.length := List.length_map ..
    walk_at "rd"
    refine ifd (fun h4 => ?_) (fun h4 => ?_)
    · have h4 : xs.length = 4 := by
        injection h4 with h4
        rw [hlx] at h4; omega
      rw [if_pos h4] at e0
      walk_at "rd"
      exact ff_raise fun d H2 s e => k2 _ e0 d H2 ((o.2.2.wider (by simp)).trans (Kp.of_same s)) e
    have h4 : xs.length ≠ 4 := fun z => h4 (by rw [hlx, z]; rfl)
    rw [if_neg h4] at e0
    have hns : (xs.map (·.rt.name)).length ≤ 1000 := by rw [List.length_map]; omega
    walk_at "rd"
    refine ⟨fun p n rn hp hnc H2 o2 => ?_, fun p n rn hc => (k2 (6, p) (by rw [e0, rn]; exact if_pos hc)).sub (o.2.2.wider (by simp)) (by simp), fun f e => (k2 f (by rw [e0, e]; rfl)).sub (o.2.2.wider (by simp)) (by simp)⟩
    have e0 : tabS xs.length (xs.map (·.rt.name)) (Sx ts pos) = (wantSign 123 (Sx ts (pos + 1 + 1))).bind fun r => (readColumns 4 [] r).bind fun c => .ok ({ name := n, columns := c.1 }, c.2) := by
      rw [e0, rn]
      exact if_neg (by rw [hnc]; decide)
    have rw2 : RdW ad H2 a tl sl rl ts (pos + 1 + 1) := o2.at' rw1 hp
    have k02 : Kp [a] H H2 := o.2.2.trans o2.2.2
    have hrl2 : RefL H2 rl rs := hrl.kp k02 (no_tup h1) (ref_ne h1 hrl)
    clear hsl1 hrl1 hxs1 hpn rw1 h11 hlx na
    obtain ⟨t2, rt2, ht2⟩ := rw2.at
    obtain ⟨dx2, h12⟩ := rw2.r.ex
    have is2 := is_sign rw.wf ht2 123 (by decide)
    obtain ⟨fb1, fb2⟩ := fault_at rw.wf ht2
    walk_at "rd"
    refine ⟨fun hm3 H3 o3 => ?_, fun hm3 => ?_⟩
    rotate_left
    · have q := (k2 (faultAt (Sx ts (pos + 1 + 1))) (by rw [e0]; unfold wantSign; rw [if_neg (fun z => hm3 (is2.1.mp z))]; rfl)).sub (k02.wider (by simp)) (bs := []) (by simp)
      rw [fb1, fb2] at q
      exact q
    obtain ⟨l3, p3⟩ := is2.2 hm3
    have e0 : tabS xs.length (xs.map (·.rt.name)) (Sx ts pos) = (readColumns 4 [] (Sx ts (pos + 1 + 1 + 1))).bind fun c => .ok ({ name := n, columns := c.1 }, c.2) := by
      rw [e0]
      unfold wantSign
      rw [if_pos (is2.1.mpr hm3), sx_next ht2 l3]; rfl
    have rw3 : RdW ad H3 a tl sl rl ts (pos + 1 + 1 + 1) := o3.at' rw2 p3
    have k03 : Kp [a] H H3 := k02.trans o3.2.2
    have hrl3 : RefL H3 rl rs := hrl.kp k03 (no_tup h1) (ref_ne h1 hrl)
    walk_at "rd"
    refine al fun cl H4 n4 s4 hcl4 => ?_
    have rw4 : RdW ad H4 a tl sl rl ts (pos + 1 + 1 + 1) := rw3.same s4
    have hrl4 : RefL H4 rl rs := hrl3.kp (as := []) (Kp.of_same s4) (by simp) (by simp)
    have k04 : Kp [a, rl] H H4 := (k03.wider (by simp)).trans (Kp.of_same s4)
    have cl_a : cl ≠ a := fun z => by
      obtain ⟨d, hd⟩ := rw3.r.ex
      rw [z, hd] at n4; cases n4
    have cl_rl : cl ≠ rl := fun z => by
      obtain ⟨d, hd, _⟩ := hrl3.ex
      rw [z, hd] at n4; cases n4
    have cl_tl : tl ≠ cl := fun z => by
      obtain ⟨d, hd, _⟩ := rw3.tk.ex
      rw [z, n4] at hd; cases hd
    have cl0 : H cl = none := by
      cases e : H cl with
      | none => rfl
      | some u => rw [k03 cl u (by simpa using cl_a) e] at n4; cases n4
    walk_at "rd"
    refine ⟨⟨fun m σ H' => ∃ (q : Nat) (cas : List Addr) (cs : List RawColumn), σ = [some (.ref a), some (.int t.pl), some (.str (Tw.T n)), some (.ref cl)] ∧ m = 5 - cs.length ∧ cs.length ≤ 4 ∧ readColumns 4 [] (Sx ts (pos + 1 + 1 + 1)) = readColumns (4 - cs.length) cs (Sx ts q) ∧ RdW ad H' a tl sl rl ts q ∧ H' cl = some (.lst (cas.map V.ref)) ∧ Paired (fun ca c => ColAt ad H' ca (rawG ca c)) cas cs ∧ RefL H' rl (rs ++ refsZ cas cs) ∧ (∀ c ∈ cas, H c = none) ∧ cas.Nodup ∧ Kp [a, rl] H H',
      ⟨_, _, [], [], rfl, rfl, by simp, rfl, rw4, hcl4, .nil, by rw [show refsZ [] [] = [] from rfl, List.append_nil]; exact hrl4, by simp, by simp, k04⟩, ?_⟩⟩
    rintro m σ H5 ⟨q, cas, cs, rfl, rfl, hj, eC, rw5, hcl5, hcols, hr5, hfr, hnd, k05⟩
    obtain ⟨t5, rt5, ht5⟩ := rw5.at
    obtain ⟨dx5, h15⟩ := rw5.r.ex
    have is5 := is_sign rw.wf ht5 125 (by decide)
    walk_at "rd"
    intro b H6 hy hn
    obtain ⟨m6, rw6, k56, eS, eN⟩ := tookS rw5 ht5 is5 hy hn
    walk_at "rd"
    refine ifnb (fun hb => ?_) (fun hb => ?_)
    · obtain ⟨_, rfl⟩ := hn hb
      refine wnx ?_
      have hlc : (cas.map V.ref).length = cs.length := by rw [List.length_map]; exact Paired.length hcols
      walk_at "rd"
      refine ifd (fun h7 => ?_) (fun h7 => ?_)
      · have h7 : cs.length = 4 := by
          injection h7 with h7
          rw [hlc] at h7; omega
        walk_at "rd"
        have e1 : tabS xs.length (xs.map (·.rt.name)) (Sx ts pos) = .error (5, t5.pl) := by
          rw [e0, eC, h7]
          show Except.bind (if isSign 125 (Sx ts q) = true then _ else Except.error (5, here (Sx ts q))) _ = _
          rw [if_neg (by rw [eN, hb]; decide), show here (Sx ts q) = t5.pl by rw [sx_at ht5]; rfl]; rfl
        exact ff_raise fun d H7 s e => k2 _ e1 d H7 (k05.trans (Kp.of_same s)) e
      · have h7 : cs.length ≠ 4 := fun z => h7 (by rw [hlc, z]; rfl)
        have hpn := nm_cols T (g := rawG) (fun ca c => by unfold rawG rcOf; cases c.kind <;> rfl) hcols
        have hlen1 : (cs.map (·.name)).length ≤ 1000 := by rw [List.length_map]; omega
        have hlen2 : (rs ++ refsZ cas cs).length ≤ 500 := by
          have := refsZ_len cas cs
          rw [List.length_append]; omega
        have eD : readColumns (4 - cs.length) cs (Sx ts q) = (colS (cs.map (·.name)) (Sx ts q)).bind fun c => readColumns (4 - (cs.length + 1)) (cs ++ [c.1]) c.2 := by
          rw [show 4 - cs.length = (4 - (cs.length + 1)) + 1 by omega, readColumns_succ, if_neg (by rw [eN, hb]; decide)]
        walk_at "rd"
        refine ⟨fun rc m7 e7 p7 ca H7 nca r7 tk7 hc7 hr7 k67 => ?_, fun f e7 => ?_⟩
        · have cl_n : cl ∉ [a, rl] := by simp [cl_a, cl_rl]
          have hcl7 := k67 _ _ cl_n hcl5
          have hcols7 := cols_kp k67 (only_rdr rw5.r hr5) hcols
          have hca0 : H ca = none := fresh_of k05 nca (fun y hy e => by
            simp only [List.mem_cons, List.not_mem_nil, or_false] at hy
            rcases hy with rfl | rfl
            · rw [h15] at e; cases e
            · obtain ⟨ww, hw, _⟩ := hr5.ex
              rw [hw] at e; cases e)
          have hnin : ca ∉ cas := fun m => by
            obtain ⟨c, _, hc⟩ := paired_mem hcols m
            obtain ⟨d, hd⟩ := hc.ex
            rw [hd] at nca; cases nca
          have hlw : (cas.map V.ref).length ≤ 4 := by omega
          walk_at "rd"
          intro H8 e8
          have k78 : Kp [cl] H7 H8 := by rw [e8]; exact Kp.upd (by simp)
          have r8 : RdrAt ad H8 a tl sl rl m7 := by
            obtain ⟨d, hd⟩ := r7.ex
            exact ⟨d, k78 _ _ (by simpa using cl_a.symm) hd⟩
          have tk8 : TokL H8 tl ts := tk7.kp k78 (no_tupL hcl7) (by simpa using cl_tl)
          have hr8 : RefL H8 rl (rs ++ refsZ cas cs ++ refsOf ca rc) := hr7.kp k78 (no_tupL hcl7) (by simpa using cl_rl.symm)
          have col8 : ∀ {c : Addr} {r : RC}, ColAt ad H7 c r → ColAt ad H8 c r := fun {c r} h => h.kp k78 (fun m => by
            obtain ⟨d, hd⟩ := h.ex
            rw [List.mem_singleton.mp m, hcl7] at hd; cases hd)
          walk_at "rd"
          refine ⟨⟨5 - (cs.length + 1), by omega, m7, cas ++ [ca], cs ++ [rc], rfl, by rw [List.length_append]; rfl, by rw [List.length_append, List.length_singleton]; omega, ?_, ⟨r8, tk8, rw.wf, p7, rw.sep⟩, ?_, ?_, ?_, ?_, ?_, ?_⟩⟩
          · rw [eC, eD, e7, List.length_append]; rfl
          · rw [e8, List.map_append]; exact upd_same
          · exact Paired.snoc (Paired.mono (fun c r h => col8 h) hcols7) (col8 hc7)
          · rw [refsZ_snoc _ _ _ _ (Paired.length hcols), ← List.append_assoc]; exact hr8
          · intro c hc
            rcases List.mem_append.mp hc with hc | hc
            · exact hfr c hc
            · rw [List.mem_singleton.mp hc]; exact hca0
          · rw [List.nodup_append]
            exact ⟨hnd, by simp, fun x hx y hy e => hnin (by rw [List.mem_singleton.mp hy] at e; rw [← e]; exact hx)⟩
          · refine (k05.trans k67).trans' k78 (fun y hy => ?_)
            rw [List.mem_singleton.mp hy]; exact cl0
        · have e1 : tabS xs.length (xs.map (·.rt.name)) (Sx ts pos) = .error f := by
            rw [e0, eC, eD, e7]; rfl
          exact (k2 f e1).sub k05 (by simp)
    · have eE : readColumns (4 - cs.length) cs (Sx ts q) = .ok (cs, Sx ts m6) := by
        rw [hb] at eN eS
        rw [eS]
        cases 4 - cs.length with
        | zero => exact if_pos eN
        | succ k => rw [readColumns_succ, if_pos eN, if_pos rfl]
      have e1 : tabS xs.length (xs.map (·.rt.name)) (Sx ts pos) = .ok ({ name := n, columns := cs }, Sx ts m6) := by
        rw [e0, eC, eE]; rfl
      have hcl6 : H6 cl = some (.lst (cas.map V.ref)) := k56 _ _ (by simpa using cl_a) hcl5
      have hcols6 := cols_kp (k56.wider (bs := [a, rl]) (by simp)) (only_rdr rw5.r hr5) hcols
      have hr6 : RefL H6 rl (rs ++ refsZ cas cs) := hr5.kp k56 (no_tup h15) (ref_ne h15 hr5)
      have k06 : Kp [a, rl] H H6 := k05.trans (k56.wider (by simp))
      walk_at "rd"
      intro x d1 nx nd ne
      walk_at "rd"
      intro H9 hobj k69
      have s69 : Same H6 H9 := fun b u e => by
        have n1 : b ≠ x := ne_of_none e nx
        refine k69 b u (by simpa using n1) ?_
        rw [upd_ne n1, upd_ne (ne_of_none e nd)]; exact e
      have hx0 : H x = none := fresh_of k06 nx (fun y hy e => by
        simp only [List.mem_cons, List.not_mem_nil, or_false] at hy
        rcases hy with rfl | rfl
        · obtain ⟨d, hd⟩ := rw6.r.ex
          rw [hd] at e; cases e
        · obtain ⟨ww, hw, _⟩ := hr6.ex
          rw [hw] at e; cases e)
      walk_at "rd"
      refine k1 _ _ e1 rw6.lt ⟨x, cl, cas, ⟨n, cs⟩⟩ H9 rfl ⟨hobj, s69 _ _ hcl6, cols_kp (as := []) (Kp.of_same s69) (by simp) hcols6⟩ (rw6.same s69).r (rw6.same s69).tk (hr6.kp (as := []) (Kp.of_same s69) (by simp) (by simp)) hx0 cl0 hfr hnd (k06.trans (Kp.of_same s69))
  · have q := (k2 (faultAt (Sx ts pos)) (by unfold tabS wantWord; rw [if_neg (fun z => hm (ist.1.mp z))]; rfl)).sub (Kp.refl _ _) (bs := []) (by simp)
    rw [fa1, fa2] at q
    exact q
end Tw
namespace Tw
open PySem PySem.Spec PyProof.Rows L2
open VauowBase (Toks isWord isSign isOver faultAt readName wantWord ascii here RawColumn RawKind RawTable readTables tablesFor columnsFor kindFor indexOf)

variable {P : Program} {w : World} {K : PySem.W.Frag} {mg : Str → Option Value} {base : Heap} {ad : Ads}
/-! ### references to tables -/
def okRef (ns : List (List Nat)) (r : Rf) : Bool := ns.contains r.nm
theorem indexOf_eq (l : List RawTable) (x : List Nat) : indexOf l x = (l.map (·.name)).findIdx? (· == x) := by
  unfold indexOf
  rw [List.findIdx?_map]; rfl
theorem findIdx_has (ns : List (List Nat)) (x : List Nat) : (ns.findIdx? (· == x)).isSome = ns.contains x := by
  rw [List.findIdx?_isSome, List.contains_eq_any_beq]
  congr 1
  funext y
  exact Bool.beq_comm ..
/-- a kind of which the table is known -/
def kindOk (l : List RawTable) : RawKind → VauowBase.Kind
  | .number lo hi => .number lo hi
  | .ref _ x n a => .ref ((indexOf l x).getD 0) n a
def colOk (l : List RawTable) (c : RawColumn) : VauowBase.Column := ⟨c.name, kindOk l c.kind, c.unique⟩
def tabOk (l : List RawTable) (t : RawTable) : VauowBase.Table := ⟨t.name, t.columns.map (colOk l)⟩
/-- what tablesFor says by the references in their order -/
theorem columnsFor_eq (l : List RawTable) : ∀ (cas : List Addr) (cs : List RawColumn), cas.length = cs.length → columnsFor l cs = match (refsZ cas cs).find? (fun r => !okRef (l.map (·.name)) r) with
    | some r => .error (7, r.pl)
    | none => .ok (cs.map (colOk l))
  | [], [], _ => rfl
  | ca :: cas, c :: cs, h => by
    have ih := columnsFor_eq l cas cs (by simpa using h)
    show ((kindFor l c.kind).bind fun k => (columnsFor l cs).map fun z => { name := c.name, kind := k, unique := c.unique } :: z) = match (refsOf ca c ++ refsZ cas cs).find? _ with | some r => _ | none => _
    rw [ih, List.find?_append]
    obtain ⟨n, k, u⟩ := c
    cases k with
    | number lo hi =>
      show Except.map _ _ = match ((none : Option Rf).or _) with | some r => _ | none => _
      rw [Option.none_or]
      cases (refsZ cas cs).find? (fun r => !okRef (l.map (·.name)) r) with
      | none => rfl
      | some r => rfl
    | ref p x n2 a =>
      have e1 : kindFor l (.ref p x n2 a) = match indexOf l x with | some t => .ok (.ref t n2 a) | none => .error (7, p) := rfl
      have e2 : (refsOf ca ⟨n, .ref p x n2 a, u⟩).find? (fun r => !okRef (l.map (·.name)) r) = if (!okRef (l.map (·.name)) ⟨ca, x, p⟩) then some ⟨ca, x, p⟩ else none := by
        show List.find? _ [(⟨ca, x, p⟩ : Rf)] = _
        rw [List.find?_cons]
        cases (!okRef (l.map (·.name)) ⟨ca, x, p⟩) <;> rfl
      have e3 : okRef (l.map (·.name)) ⟨ca, x, p⟩ = (indexOf l x).isSome := by
        rw [indexOf_eq, findIdx_has]; rfl
      rw [e1, e2, e3]
      cases ei : indexOf l x with
      | none => rfl
      | some t =>
        show Except.map _ _ = match ((none : Option Rf).or _) with | some r => _ | none => _
        rw [Option.none_or]
        have ek : colOk l ⟨n, .ref p x n2 a, u⟩ = ⟨n, .ref t n2 a, u⟩ := by
          show (⟨n, .ref ((indexOf l x).getD 0) n2 a, u⟩ : VauowBase.Column) = _
          rw [ei]; rfl
        cases (refsZ cas cs).find? (fun r => !okRef (l.map (·.name)) r) with
        | none => show Except.ok _ = Except.ok (colOk l _ :: _); rw [ek]
        | some r => rfl
def refsX (xs : List TI) : List Rf := xs.flatMap fun x => refsZ x.cas x.rt.columns
theorem tables_go (l : List RawTable) : ∀ (xs : List TI), (∀ x ∈ xs, x.cas.length = x.rt.columns.length) → (xs.map (·.rt)).foldr (fun x r => (columnsFor l x.columns).bind fun c => r.map fun z => ({ name := x.name, columns := c } : VauowBase.Table) :: z) (.ok []) = match (refsX xs).find? (fun r => !okRef (l.map (·.name)) r) with
    | some r => .error (7, r.pl)
    | none => .ok (xs.map fun x => tabOk l x.rt)
  | [], _ => rfl
  | x :: xs, h => by
    have ih := tables_go l xs fun y hy => h y (by simp [hy])
    rw [List.map_cons, List.foldr_cons, ih, columnsFor_eq l x.cas x.rt.columns (h x (by simp))]
    show _ = match (refsZ x.cas x.rt.columns ++ refsX xs).find? _ with | some r => _ | none => _
    rw [List.find?_append]
    cases (refsZ x.cas x.rt.columns).find? (fun r => !okRef (l.map (·.name)) r) with
    | some r => rfl
    | none =>
      show Except.map _ _ = match ((none : Option Rf).or _) with | some r => _ | none => _
      rw [Option.none_or]
      cases (refsX xs).find? (fun r => !okRef (l.map (·.name)) r) with
      | none => rfl
      | some r => rfl
theorem tablesFor_eq (xs : List TI) (h : ∀ x ∈ xs, x.cas.length = x.rt.columns.length) : tablesFor (xs.map (·.rt)) = match (refsX xs).find? (fun r => !okRef (xs.map (·.rt.name)) r) with
    | some r => .error (7, r.pl)
    | none => .ok (xs.map fun x => tabOk (xs.map (·.rt)) x.rt) := by
  have e := tables_go (xs.map (·.rt)) xs h
  rw [List.map_map] at e
  exact e
/-! ### all tables -/
theorem readTables_eq (j : Nat) (l : List RawTable) (S : Toks) (hj : j = l.length) (h4 : j ≤ 4) : readTables (4 - j) l S = if isOver S then .ok l else (tabS j (l.map (·.name)) S).bind fun c => readTables (4 - (j + 1)) (l ++ [c.1]) c.2 := by
  by_cases h : j = 4
  · subst h
    show (if isOver S = true then _ else if isWord "table" S = true then _ else _) = _
    by_cases ho : isOver S = true
    · rw [if_pos ho, if_pos ho]
    · rw [if_neg ho, if_neg ho]
      unfold tabS wantWord
      by_cases hw : isWord "table" S = true
      · rw [if_pos hw, if_pos hw]; rfl
      · rw [if_neg hw, if_neg hw]; rfl
  · rw [show 4 - j = (4 - (j + 1)) + 1 by omega]
    show (if isOver S = true then _ else _) = _
    by_cases ho : isOver S = true
    · rw [if_pos ho, if_pos ho]
    · rw [if_neg ho, if_neg ho]
      unfold tabS
      cases e1 : wantWord "table" S with
      | error f => rfl
      | ok q =>
        show (readName q).bind _ = Except.bind (if j = 4 then _ else (readName q).bind _) _
        rw [if_neg h]
        cases e2 : readName q with
        | error f => rfl
        | ok x =>
          show (if (l.any fun t => t.name == x.1.2) = true then _ else _) = Except.bind (if (l.map (·.name)).contains x.1.2 = true then _ else _) _
          have ea : (l.any fun t => t.name == x.1.2) = (l.map (·.name)).contains x.1.2 := by
            rw [List.contains_eq_any_beq, List.any_map]
            congr 1
            funext c
            exact Bool.beq_comm ..
          rw [ea]
          by_cases h2 : (l.map (·.name)).contains x.1.2 = true
          · rw [if_pos h2, if_pos h2]; rfl
          · rw [if_neg h2, if_neg h2]
            cases e3 : VauowBase.wantSign 123 x.2 with
            | error f => rfl
            | ok r =>
              show (VauowBase.readColumns 4 [] r).bind _ = Except.bind ((VauowBase.readColumns 4 [] r).bind _) _
              cases e4 : VauowBase.readColumns 4 [] r with
              | error f => rfl
              | ok c => rfl
theorem is_over {ts : List Tk} (W : WfT ts) {pos : Nat} {t : Tk} (h : ts[pos]? = some t) : isOver (Sx ts pos) = true ↔ t.sort = tE := by
  rw [sx_at h]
  obtain ⟨s, x, p⟩ := t
  obtain ⟨h1, h2, h3, h4, h5, h6⟩ := tokOf_s s x p
  obtain ⟨n1, n2, n3, n4, n5, _⟩ := tok_sorts
  show isOver ((p, tokOf ⟨s, x, p⟩) :: _) = true ↔ s = tE
  rcases sort_cases W h with e | e | e | e | e | e
  · rw [h1 e]; have e : s = tE := e; exact ⟨fun _ => e, fun _ => rfl⟩
  · rw [h2 e]; have e : s = tX := e; exact ⟨fun z => (Bool.noConfusion z), fun z => absurd (e.symm.trans z) n1⟩
  · rw [h3 e]; have e : s = tW := e; exact ⟨fun z => (Bool.noConfusion z), fun z => absurd (e.symm.trans z) n2⟩
  · rw [h4 e]; have e : s = tM := e; exact ⟨fun z => (Bool.noConfusion z), fun z => absurd (e.symm.trans z) n3⟩
  · rw [h5 e]; have e : s = tN := e; exact ⟨fun z => (Bool.noConfusion z), fun z => absurd (e.symm.trans z) n4⟩
  · rw [h6 e]; have e : s = tS := e; exact ⟨fun z => (Bool.noConfusion z), fun z => absurd (e.symm.trans z) n5⟩
end Tw
namespace Tw
open PySem PySem.Spec PyProof.Rows L2
open VauowBase (Toks isWord isSign isOver faultAt readName wantWord ascii here RawColumn RawKind RawTable readTables tablesFor columnsFor kindFor indexOf)

variable {P : Program} {w : World} {K : PySem.W.Frag} {mg : Str → Option Value} {base : Heap} {ad : Ads}
/-! ### the schema as it's held -/
def colOf (c : VauowBase.Column) : RC := match c.kind with
  | .number lo hi => ⟨c.name, lo, hi, none, false, [], c.unique⟩
  | .ref t n aw => ⟨c.name, -1000000, 1000000, some t, n, awT aw, c.unique⟩
structure TabS (ad : Ads) (H : Hp) (ta : Addr) (t : VauowBase.Table) : Prop where
  ex : ∃ dx cl cas, H ta = some (.ins ad.Table dx (tabF t.name cl)) ∧ H cl = some (.lst (cas.map V.ref)) ∧ Paired (fun ca c => ColAt ad H ca (colOf c)) cas t.columns
structure SchAt (ad : Ads) (H : Hp) (sl : Addr) (s : VauowBase.Schema) : Prop where
  ex : ∃ tas, H sl = some (.lst (tas.map V.ref)) ∧ Paired (TabS ad H) tas s
/-- the same, of its lists of columns more is known -/
structure TabSN (N : Addr → Prop) (ad : Ads) (H : Hp) (ta : Addr) (t : VauowBase.Table) : Prop where
  ex : ∃ dx cl cas, N cl ∧ H ta = some (.ins ad.Table dx (tabF t.name cl)) ∧ H cl = some (.lst (cas.map V.ref)) ∧ Paired (fun ca c => ColAt ad H ca (colOf c)) cas t.columns
structure SchAtN (N : Addr → Prop) (ad : Ads) (H : Hp) (sl : Addr) (s : VauowBase.Schema) : Prop where
  ex : ∃ tas, H sl = some (.lst (tas.map V.ref)) ∧ Paired (TabSN N ad H) tas s
theorem SchAtN.at {N : Addr → Prop} {H : Hp} {sl : Addr} {s : VauowBase.Schema} (h : SchAtN N ad H sl s) : SchAt ad H sl s := by
  obtain ⟨tas, e, p⟩ := h.ex
  exact ⟨tas, e, Paired.mono (fun ta t h => by obtain ⟨dx, cl, cas, _, h⟩ := h.ex; exact ⟨dx, cl, cas, h⟩) p⟩
theorem SchAtN.imp {N N' : Addr → Prop} (hn : ∀ c, N c → N' c) {H : Hp} {sl : Addr} {s : VauowBase.Schema} (h : SchAtN N ad H sl s) : SchAtN N' ad H sl s := by
  obtain ⟨tas, e, p⟩ := h.ex
  exact ⟨tas, e, Paired.mono (fun ta t h => by obtain ⟨dx, cl, cas, a, h⟩ := h.ex; exact ⟨dx, cl, cas, hn _ a, h⟩) p⟩
/-! ### columns with their addresses -/
def prs (xs : List TI) : List (Addr × RawColumn) := xs.flatMap fun x => x.cas.zip x.rt.columns
theorem refsX_prs (xs : List TI) : refsX xs = (prs xs).flatMap fun p => refsOf p.1 p.2 := by
  unfold refsX prs refsZ
  rw [List.flatMap_assoc]
theorem paired_zip {α β : Type} {R : α → β → Prop} : ∀ {l : List α} {m : List β}, Paired R l m → ∀ p ∈ l.zip m, R p.1 p.2
  | _, _, .nil, p, h => by cases h
  | _, _, .cons (a := a) (b := b) hab r, p, h => by
    rw [List.zip_cons_cons] at h
    rcases List.mem_cons.mp h with rfl | h
    · exact hab
    · exact paired_zip r p h
theorem zip_paired {α β : Type} {R : α → β → Prop} : ∀ {l : List α} {m : List β}, l.length = m.length → (∀ p ∈ l.zip m, R p.1 p.2) → Paired R l m
  | [], [], _, _ => .nil
  | [], b :: m, h, _ => by cases h
  | a :: l, [], h, _ => by cases h
  | a :: l, b :: m, h, q => .cons (q (a, b) (by simp)) (zip_paired (by simpa using h) fun p hp => q p (by rw [List.zip_cons_cons]; exact List.mem_cons_of_mem _ hp))
theorem key_one {α : Type} : ∀ {l : List (Addr × α)}, (l.map (·.1)).Nodup → ∀ {p q : Addr × α}, p ∈ l → q ∈ l → p.1 = q.1 → p = q
  | [], _, p, q, h, _, _ => by cases h
  | x :: l, n, p, q, hp, hq, e => by
    rw [List.map_cons, List.nodup_cons] at n
    rcases List.mem_cons.mp hp with rfl | hp
    · rcases List.mem_cons.mp hq with h | hq
      · exact h.symm
      · exact absurd (List.mem_map.mpr ⟨q, hq, e.symm⟩) n.1
    · rcases List.mem_cons.mp hq with h | hq
      · rw [h] at e; exact absurd (List.mem_map.mpr ⟨p, hp, e⟩) n.1
      · exact key_one n.2 hp hq e
def gG (l : List RawTable) (done : List Addr) (ca : Addr) (c : RawColumn) : RC := if ca ∈ done then colOf (colOk l c) else rcOf c
theorem gG_end (l : List RawTable) (xs : List TI) {p : Addr × RawColumn} (hp : p ∈ prs xs) : gG l ((refsX xs).map (·.ca)) p.1 p.2 = colOf (colOk l p.2) := by
  obtain ⟨ca, n, k, u⟩ := p
  unfold gG
  cases k with
  | number lo hi =>
    by_cases h : ca ∈ (refsX xs).map (·.ca)
    · rw [if_pos h]
    · rw [if_neg h]; rfl
  | ref p x n2 a =>
    have hm : (⟨ca, x, p⟩ : Rf) ∈ refsX xs := by
      rw [refsX_prs]
      exact List.mem_flatMap.mpr ⟨_, hp, List.mem_singleton.mpr rfl⟩
    exact if_pos (List.mem_map.mpr ⟨_, hm, rfl⟩)
theorem ref_col {xs : List TI} {r : Rf} (h : r ∈ refsX xs) : ∃ n nn a u, (r.ca, (⟨n, .ref r.pl r.nm nn a, u⟩ : RawColumn)) ∈ prs xs := by
  rw [refsX_prs] at h
  obtain ⟨⟨ca, n, k, u⟩, hp, hr⟩ := List.mem_flatMap.mp h
  cases k with
  | number lo hi => simp [refsOf] at hr
  | ref p x n2 a =>
    have hr : r = ⟨ca, x, p⟩ := by simpa [refsOf] using hr
    subst hr
    exact ⟨_, _, _, _, hp⟩
theorem put_tgt (l : List RawTable) (done : List Addr) (ca : Addr) (n : List Nat) (p : Nat) (x : List Nat) (nn : Bool) (a : VauowBase.Away) (u : Bool) (j : Nat) (h : indexOf l x = some j) :
    putF ("target" : Str) (.int j) (colF (gG l done ca ⟨n, .ref p x nn a, u⟩)) = colF (colOf (colOk l ⟨n, .ref p x nn a, u⟩)) := by
  have e : colOf (colOk l ⟨n, .ref p x nn a, u⟩) = ⟨n, -1000000, 1000000, some j, nn, awT a, u⟩ := by
    show (⟨n, -1000000, 1000000, some ((indexOf l x).getD 0), nn, awT a, u⟩ : RC) = _
    rw [h]; rfl
  unfold gG
  split
  · rw [e]; rfl
  · rw [e]; rfl
theorem idx_facts {l : List (List Nat)} {x : List Nat} (h : l.contains x = true) : ∃ j : Nat, l.findIdx? (· == x) = some j ∧ l[j]? = some x ∧ ∀ m z, m < j → l[m]? = some z → z ≠ x := by
  have hs := findIdx_has l x
  rw [h, Option.isSome_iff_exists] at hs
  obtain ⟨j, hj⟩ := hs
  obtain ⟨hl, h1, h2⟩ := List.findIdx?_eq_some_iff_getElem.mp hj
  refine ⟨j, hj, ?_, fun m z hm hz e => ?_⟩
  · rw [List.getElem?_eq_getElem hl, eq_of_beq h1]
  · obtain ⟨hm', hz⟩ := List.getElem?_eq_some_iff.mp hz
    exact h2 m hm (by rw [hz, e]; exact beq_self_eq_true x)
theorem find_first {α : Type} {p : α → Bool} : ∀ {l : List α} {i : Nat} {r : α}, l[i]? = some r → p r = true → (∀ y ∈ l.take i, p y = false) → l.find? p = some r
  | [], i, r, h, _, _ => by simp at h
  | a :: l, 0, r, h, hp, _ => by
    obtain rfl : a = r := Option.some.inj h
    rw [List.find?_cons, hp]
  | a :: l, i + 1, r, h, hp, hn => by
    rw [List.find?_cons, hn a (by simp)]
    exact find_first (i := i) (by simpa using h) hp fun y hy => hn y (by rw [List.take_succ_cons]; exact List.mem_cons_of_mem _ hy)
theorem find_no {α : Type} {p : α → Bool} : ∀ {l : List α}, (∀ y ∈ l, p y = false) → l.find? p = none
  | [], _ => rfl
  | a :: l, h => by
    rw [List.find?_cons, h a (by simp)]
    exact find_no fun y hy => h y (List.mem_cons_of_mem _ hy)
/-- all columns at their places -/
def ColX (ad : Ads) (H : Hp) (g : Addr → RawColumn → RC) (xs : List TI) : Prop := ∀ p ∈ prs xs, ColAt ad H p.1 (g p.1 p.2)
theorem colX_of {H : Hp} {g : Addr → RawColumn → RC} {xs : List TI} (h : ∀ x ∈ xs, TabAt ad H g x) : ColX ad H g xs := by
  intro p hp
  obtain ⟨x, hx, hp⟩ := List.mem_flatMap.mp hp
  exact paired_zip (h x hx).cols p hp
/-- from the tables as they were and the columns as they are -/
theorem sch_of {H H' : Hp} {sl : Addr} {l : List RawTable} {xs : List TI} (h : ∀ x ∈ xs, TabAt ad H rawG x) (hs : H' sl = some (.lst (xs.map fun x => V.ref x.ta)))
    (k : Kp ((prs xs).map (·.1)) H H') (hc : ColX ad H' (fun _ c => colOf (colOk l c)) xs) : SchAtN (fun c => ∃ x ∈ xs, x.cl = c) ad H' sl (xs.map fun x => tabOk l x.rt) := by
  have col0 := colX_of h
  have nc : ∀ {b : Addr} {u : HO}, H b = some u → (∀ d c, u ≠ .ins ad.Column d (colF c)) → b ∉ (prs xs).map (·.1) := fun {b u} e n m => by
    obtain ⟨p, hp, rfl⟩ := List.mem_map.mp m
    obtain ⟨d, hd⟩ := (col0 p hp).ex
    rw [hd] at e
    exact n _ _ (Option.some.inj e).symm
  refine ⟨xs.map (·.ta), by rw [hs, List.map_map]; rfl, ?_⟩
  have go : ∀ ys : List TI, (∀ y ∈ ys, y ∈ xs) → Paired (TabSN (fun c => ∃ x ∈ xs, x.cl = c) ad H') (ys.map (·.ta)) (ys.map fun x => tabOk l x.rt) := by
    intro ys
    induction ys with
    | nil => exact fun _ => .nil
    | cons y ys ih =>
      intro hy
      have ym := hy y (by simp)
      obtain ⟨⟨dx, e1⟩, e2, e3⟩ := h y ym
      refine .cons ⟨dx, y.cl, y.cas, ⟨y, ym, rfl⟩, k _ _ (nc e1 fun d c z => ?_) e1, k _ _ (nc e2 fun d c z => by cases z) e2, ?_⟩ (ih fun z hz => hy z (by simp [hz]))
      · injection z with _ _ z
        exact absurd (congrArg List.length z) (by show (2 : Nat) ≠ 7; decide)
      · show Paired _ y.cas (y.rt.columns.map (colOk l))
        have hz : ∀ p ∈ y.cas.zip y.rt.columns, ColAt ad H' p.1 (colOf (colOk l p.2)) := fun p hp => hc p (List.mem_flatMap.mpr ⟨y, ym, hp⟩)
        have hl := Paired.length e3
        refine zip_paired (by rw [List.length_map]; exact hl) fun p hp => ?_
        rw [List.zip_map_right] at hp
        obtain ⟨q, hq, rfl⟩ := List.mem_map.mp hp
        exact hz q hq
  exact go xs fun y hy => hy
abbrev s_SchemaReader_find_targets : Stmt := inClass (top 85) 16
theorem sc_SchemaReader_find_targets : FnScope ["self", "names", "column", "name", "place", "table"] ["self"] (defScope s_SchemaReader_find_targets) := ⟨rfl, rfl, rfl, by decide +kernel, rfl, by decide +kernel, by decide +kernel⟩
def sp_find_targets (ad : Ads) : Sp := fun vs H Q E => ∃ (a tl sl rl : Addr) (pos : Nat) (xs : List TI), vs = [.ref a] ∧ RdrAt ad H a tl sl rl pos ∧ H sl = some (.lst (xs.map fun x => V.ref x.ta)) ∧ (∀ x ∈ xs, TabAt ad H rawG x) ∧ xs.length ≤ 4 ∧ RefL H rl (refsX xs) ∧ ((prs xs).map (·.1)).Nodup ∧
  (∀ s, tablesFor (xs.map (·.rt)) = .ok s → ∀ H', Kp ((prs xs).map (·.1)) H H' → SchAtN (fun c => ∃ x ∈ xs, x.cl = c) ad H' sl s → Q .non H') ∧
  (∀ f, tablesFor (xs.map (·.rt)) = .error f → Rz ad ((prs xs).map (·.1)) H E f.1 f.2)
theorem ok_find_targets {f : Addr} {fd : FuncData} (T : Tp K mg ad)
    (x_FirstFault : Xc P w K mg base 1 ad.FirstFault ["self", "kind", "place"] (sp_FirstFault_init ad.FirstFault))
    (F : Fun K "find_targets" "SchemaReader.find_targets" s_SchemaReader_find_targets f fd) : FnOk P w K mg base (L2.CX P w) 3 f fd ["self"] (sp_find_targets ad) := by
  refine F.okX sc_SchemaReader_find_targets (fun vs H Q E h => ?_) (fun cdv A outer s H vs Q E hr h => ⟨_, (pss_cons (ps_setLc (i := 1) (own := [("table", 5)]) (g := gName 5) (tt := tYes) rfl sc_SchemaReader_find_targets.nd rfl rfl (sw_true rfl rfl rfl (by decide +kernel)) (pi_list (pe_fl T.cl_SchemaReader T.n_SchemaReader_schema (pv 0))) (blkOk_by (N := ["self", "names", "column", "name", "place", "table"]) (sc := defScope s_SchemaReader_find_targets) (by decide +kernel)) (fun _ _ _ _ _ => pg_name (i := 5) sc_SchemaReader_find_targets.nd rfl (Or.inl rfl)) (fun _ _ _ _ _ => pts_nil) (fun _ _ _ _ _ => (pe_fl T.cl_Table T.n_Table_name (pv 5)))) (pss_one (ps_forO (passes_of rfl) rfl (pi_list (pe_fl T.cl_SchemaReader T.n_SchemaReader_references (pv 0))) (pg_tup (by rfl) (pgs_cons (pg_name (i := 2) sc_SchemaReader_find_targets.nd rfl (.inl rfl)) (pgs_cons (pg_name (i := 3) sc_SchemaReader_find_targets.nd rfl (.inl rfl)) (pgs_cons (pg_name (i := 4) sc_SchemaReader_find_targets.nd rfl (.inl rfl)) pgs_nil)))) (pss_cons (ps_if (pt_cmpR op_notIn_seq (pv 3) (pv 1) (by rfl)) (pss_one (ps_raise rfl (takes_of rfl rfl rfl rfl) (pmk_x T.e_FirstFault x_FirstFault (hr.mono (by decide)) T.g_FirstFault (pa_cons (pe_cst (by rfl) T.k_NO_SUCH_TABLE) (pa_cons (pv 4) pa_nil))))) pss_nil) (pss_one (ps_fl T.cl_Column T.n_Column_target (pv 2) (pe_bm PySem.F.plainAttrs_list PySem.F.slot_list_index PySem.F.type_list_index mt_index (pv 1) (pa_cons (pv 3) pa_nil)))))))), ?_⟩)
  · obtain ⟨a, tl, sl, rl, pos, xs, rfl, _⟩ := h
    rfl
  obtain ⟨a, tl, sl, rl, pos, xs, rfl, r, hsl, hxs, hx4, hrl, hnd, k1, k2⟩ := h
  obtain ⟨dx, h1⟩ := r.ex
  have hlx : (xs.map fun x => V.ref x.ta).length = xs.length := List.length_map ..
  have eT := tablesFor_eq xs fun x hx => Paired.length (hxs x hx).cols
  walk_at "rd"
  refine ⟨⟨_, SqL.of hsl⟩, fun D hD => ?_⟩
  have nD : ∀ {b : Addr} {u : HO}, H b = some u → b ≠ D := fun e => ne_of_none e hD
  refine lc_it walk_list (fun i H' => Nx (Same H H' ∧ H' D = some (.lst ((xs.take i).map fun x => V.str (Tw.T x.rt.name))))) ⟨⟨fun b u e => by rw [upd_ne (nD e)]; exact e, upd_same⟩⟩ (fun i H' _ q => SqL.of (q.h.1 _ _ hsl)) ?_ ?_
  · rintro i v H2 H2' hi ⟨s2, h2⟩ ⟨rfl, hv⟩
    obtain ⟨x, hx, rfl⟩ := map_get hv
    obtain ⟨d, e2⟩ := (hxs x (List.mem_of_getElem? hx)).obj
    have e2' := s2 _ _ e2
    have hl2 : ((xs.take i).map fun x => V.str (Tw.T x.rt.name)).length ≤ 4 := by rw [List.length_map]; exact Nat.le_trans (List.length_take_le' ..) hx4
    walk_at "rd"
    refine ⟨⟨fun b u e => by rw [upd_ne (nD e)]; exact s2 b u e, ?_⟩⟩
    rw [take_more hx, List.map_append]
    exact upd_same
  · rintro H2 ⟨s2, h2⟩
    rw [hlx, List.take_length] at h2
    obtain ⟨ws, hw, hpr⟩ := hrl.ex
    have hw2 := s2 _ _ hw
    have h12 := s2 _ _ h1
    have hne : rl ∉ (prs xs).map (·.1) := fun m => by
      obtain ⟨p, hp, e⟩ := List.mem_map.mp m
      obtain ⟨d, hd⟩ := (colX_of hxs p hp).ex
      rw [e, hw] at hd; cases hd
    walk_at "rd"
    refine ⟨?_⟩
    walk_at "rd"
    have col0 := colX_of hxs
    have hnn : ∀ {b : Addr} {u : HO}, H b = some u → (∀ d c, u ≠ .ins ad.Column d (colF c)) → b ∉ (prs xs).map (·.1) := fun {b u} e n m => by
      obtain ⟨p, hp, rfl⟩ := List.mem_map.mp m
      obtain ⟨d, hd⟩ := (col0 p hp).ex
      rw [hd] at e
      exact n _ _ (Option.some.inj e).symm
    have Dn : ∀ p ∈ prs xs, p.1 ≠ D := fun p hp z => by
      obtain ⟨d, hd⟩ := (col0 p hp).ex
      exact nD hd z
    refine ⟨⟨_, SqL.of hw2⟩, for_it (walk_list (xs := ws)) (fun i σ H' => Nx (∃ x y z u, σ = [some (.ref a), some (.ref D), x, y, z, u] ∧ Kp ((prs xs).map (·.1)) H H' ∧ H' D = some (.lst (xs.map fun x => V.str (Tw.T x.rt.name))) ∧ ColX ad H' (gG (xs.map (·.rt)) (((refsX xs).take i).map (·.ca))) xs ∧ ∀ r ∈ (refsX xs).take i, okRef (xs.map (·.rt.name)) r = true)) ⟨_, _, _, _, rfl, Kp.of_same s2, h2, fun p hp => ?_, by simp⟩ (fun i σ H' _ q => ?_) ?_ ?_⟩
    · obtain ⟨d, hd⟩ := (col0 p hp).ex
      refine ⟨d, ?_⟩
      rw [s2 _ _ hd]
      unfold gG rawG
      rw [if_neg (by simp)]
    · obtain ⟨x, y, z, u, _, k, _⟩ := q.h
      exact SqL.of (k _ _ hne hw)
    · rintro i v σ H3 H3' hi ⟨x, y, z, u, rfl, k3, hD3, hc3, ho3⟩ ⟨rfl, hv⟩
      obtain ⟨r, hri, b, rfl, hb⟩ := paired_get' hpr hv
      have hb3 := k3 _ _ (hnn hb fun d c z => by cases z) hb
      have hrm : r ∈ refsX xs := List.mem_of_getElem? hri
      obtain ⟨n, nn, aw, un, hcol⟩ := ref_col hrm
      have hf : (xs.map fun x => V.str (Tw.T x.rt.name)).all flatV = true := by simp [flatV]
      walk_at "rd"
      have hin : inV (.str (Tw.T r.nm)) (xs.map fun x => V.str (Tw.T x.rt.name)) = okRef (xs.map (·.rt.name)) r := by
        have e := inV_strs r.nm (xs.map (·.rt.name))
        rw [List.map_map] at e
        exact e
      have hcol3 := hc3 _ hcol
      obtain ⟨dc, hdc⟩ := hcol3.ex
      refine ifnb (b := inV (.str (Tw.T r.nm)) (xs.map fun x => V.str (Tw.T x.rt.name))) (fun h3 => ?_) (fun h3 => ?_)
      · rw [hin] at h3
        have eN : (refsX xs).find? (fun r => !okRef (xs.map (·.rt.name)) r) = some r := find_first hri (by rw [h3]; rfl) fun y hy => by rw [ho3 y hy]; rfl
        rw [eN] at eT
        walk_at "rd"
        exact ff_raise fun d H4 s4 e4 => k2 _ eT d H4 (k3.trans (Kp.of_same s4)) e4
      · rw [hin] at h3
        obtain ⟨j, hj1, hj2, hj3⟩ := idx_facts h3
        have ej : indexOf (xs.map (·.rt)) r.nm = some j := by rw [indexOf_eq, List.map_map]; exact hj1
        have hy : (xs.map fun x => V.str (Tw.T x.rt.name))[j]? = some (V.str (Tw.T r.nm)) := by
          have := congrArg (Option.map fun y => V.str (Tw.T y)) hj2
          rw [← List.getElem?_map, List.map_map] at this
          exact this
        have hyn : ∀ (m : Nat) (z' : V), m < j → (xs.map fun x => V.str (Tw.T x.rt.name))[m]? = some z' → eqV z' (.str (Tw.T r.nm)) = false := fun m z' hm hz => by
          obtain ⟨x2, hx2, rfl⟩ := map_get hz
          have := hj3 m x2.rt.name hm (by rw [List.getElem?_map, hx2]; rfl)
          show decide (_ = _) = false
          exact decide_eq_false fun e => this (T_inj e)
        walk_at "rd"
        refine ⟨by show decide (_ = _) = true; exact decide_eq_true rfl, hyn, ?_⟩
        walk_at "rd"
        intro H4 e4
        rw [put_tgt _ _ _ _ _ _ _ _ _ _ ej] at e4
        have mca : r.ca ∈ (prs xs).map (·.1) := List.mem_map.mpr ⟨_, hcol, rfl⟩
        walk_at "rd"
        refine ⟨⟨_, _, _, _, rfl, k3.trans (by rw [e4]; exact Kp.upd mca), ?_, fun p hp => ?_, fun y hy => ?_⟩⟩
        · rw [e4, upd_ne (fun z => Dn _ hcol z.symm)]; exact hD3
        · rw [take_more hri, List.map_append]
          by_cases ec : p.1 = r.ca
          · obtain rfl := key_one hnd hp hcol ec
            refine ⟨dc, ?_⟩
            rw [e4, upd_same]
            unfold gG
            rw [if_pos (by simp)]
          · obtain ⟨d, hd⟩ := (hc3 p hp).ex
            refine ⟨d, ?_⟩
            rw [e4, upd_ne ec, hd]
            unfold gG
            by_cases hm : p.1 ∈ ((refsX xs).take i).map (·.ca)
            · rw [if_pos hm, if_pos (List.mem_append_left _ hm)]
            · rw [if_neg hm, if_neg (fun z => (List.mem_append.mp z).elim hm fun z => ec (by simpa using z))]
        · rw [take_more hri] at hy
          rcases List.mem_append.mp hy with hy | hy
          · exact ho3 y hy
          · rw [List.mem_singleton.mp hy]; exact h3
    · rintro σ H3 ⟨x, y, z, u, rfl, k3, hD3, hc3, ho3⟩
      rw [Paired.length hpr, List.take_length] at hc3 ho3
      have eN : (refsX xs).find? (fun r => !okRef (xs.map (·.rt.name)) r) = none := find_no fun y hy => by rw [ho3 y hy]; rfl
      rw [eN] at eT
      refine k1 _ eT _ k3 (sch_of hxs (k3 _ _ (hnn hsl fun d c z => by cases z) hsl) k3 fun p hp => ?_)
      have := hc3 p hp
      rw [gG_end _ _ hp] at this
      exact this
end Tw
namespace Tw
open PySem PySem.Spec PyProof.Rows L2
open VauowBase (Toks isWord isSign isOver faultAt readName wantWord ascii here RawColumn RawKind RawTable readTables tablesFor columnsFor kindFor indexOf readColumns)

variable {P : Program} {w : World} {K : PySem.W.Frag} {mg : Str → Option Value} {base : Heap} {ad : Ads}
/-! ### all of a text -/
theorem readColumns_len : ∀ (n : Nat) (l : List RawColumn) (S : Toks) (c : List RawColumn × Toks), readColumns n l S = .ok c → c.1.length ≤ l.length + n
  | 0, l, S, c, h => by
    have h : (if isSign 125 S = true then Except.ok (l, S.drop 1) else .error (5, here S)) = Except.ok c := h
    by_cases e : isSign 125 S = true
    · rw [if_pos e] at h
      injection h with h
      rw [← h]; exact Nat.le_refl _
    · rw [if_neg e] at h; cases h
  | n + 1, l, S, c, h => by
    rw [readColumns_succ] at h
    by_cases e : isSign 125 S = true
    · rw [if_pos e] at h
      injection h with h
      rw [← h]; exact Nat.le_add_right _ _
    · rw [if_neg e] at h
      cases e2 : colS (l.map (·.name)) S with
      | error f => rw [e2] at h; cases h
      | ok x =>
        rw [e2] at h
        have := readColumns_len n _ _ c h
        rw [List.length_append, List.length_singleton] at this
        omega
theorem tabS_len {nt : Nat} {ns : List (List Nat)} {S S' : Toks} {rt : RawTable} (h : tabS nt ns S = .ok (rt, S')) : rt.columns.length ≤ 4 := by
  unfold tabS at h
  cases e1 : wantWord "table" S with
  | error f => rw [e1] at h; cases h
  | ok q =>
    rw [e1] at h
    have h : (if nt = 4 then _ else _) = _ := h
    by_cases hn : nt = 4
    · rw [if_pos hn] at h; cases h
    rw [if_neg hn] at h
    cases e2 : readName q with
    | error f => rw [e2] at h; cases h
    | ok x =>
      rw [e2] at h
      have h : (if ns.contains x.1.2 = true then _ else _) = _ := h
      by_cases hc : ns.contains x.1.2 = true
      · rw [if_pos hc] at h; cases h
      rw [if_neg hc] at h
      cases e3 : VauowBase.wantSign 123 x.2 with
      | error f => rw [e3] at h; cases h
      | ok r =>
        rw [e3] at h
        cases e4 : readColumns 4 [] r with
        | error f =>
          have h : ((readColumns 4 [] r).bind _) = _ := h
          rw [e4] at h; cases h
        | ok c =>
          have h : ((readColumns 4 [] r).bind _) = _ := h
          rw [e4] at h
          have := readColumns_len 4 [] r c e4
          injection h with h
          injection h with h _
          rw [← h]
          simpa using this
theorem tabS_four {ns : List (List Nat)} {S : Toks} {c : RawTable × Toks} : tabS 4 ns S ≠ .ok c := by
  intro h
  unfold tabS at h
  cases e1 : wantWord "table" S with
  | error f => rw [e1] at h; cases h
  | ok q =>
    rw [e1] at h
    cases h
theorem refsX_snoc (xs : List TI) (x : TI) : refsX (xs ++ [x]) = refsX xs ++ refsZ x.cas x.rt.columns := by
  unfold refsX
  rw [List.flatMap_append]; simp
theorem prs_snoc (xs : List TI) (x : TI) (h : x.cas.length = x.rt.columns.length) : (prs (xs ++ [x])).map (·.1) = (prs xs).map (·.1) ++ x.cas := by
  unfold prs
  rw [List.flatMap_append, List.map_append]
  have : (x.cas.zip x.rt.columns).map (·.1) = x.cas := List.map_fst_zip (by omega)
  simp [this]
abbrev s_SchemaReader_read_all : Stmt := inClass (top 85) 10
theorem sc_SchemaReader_read_all : FnScope ["self"] ["self"] (defScope s_SchemaReader_read_all) := ⟨rfl, rfl, rfl, by decide +kernel, rfl, by decide +kernel, by decide +kernel⟩
def sp_read_all (ad : Ads) : Sp := fun vs H Q E => ∃ (a tl sl rl : Addr) (ts : List Tk) (pos : Nat), vs = [.ref a] ∧ RdW ad H a tl sl rl ts pos ∧ H sl = some (.lst []) ∧ RefL H rl [] ∧
  (∀ s, (readTables 4 [] (Sx ts pos)).bind tablesFor = .ok s → ∀ H' n, RdrAt ad H' a tl sl rl n → SchAtN (fun c => H c = none) ad H' sl s → Kp [a, rl, sl] H H' → Q .non H') ∧
  (∀ f, (readTables 4 [] (Sx ts pos)).bind tablesFor = .error f → Rz ad [a, rl, sl] H E f.1 f.2)
theorem ok_read_all {f : Addr} {fd : FuncData} (T : Tp K mg ad)
    (m_SchemaReader_sort_here : Mc P w K mg base CX0 1 ad.SchemaReader "sort_here" ["self"] (sp_here ad fun t => .str (Tw.T t.sort)))
    (m_SchemaReader_read_table : Mc P w K mg base (L2.CX P w) 7 ad.SchemaReader "read_table" ["self"] (sp_read_table ad))
    (m_SchemaReader_find_targets : Mc P w K mg base (L2.CX P w) 3 ad.SchemaReader "find_targets" ["self"] (sp_find_targets ad))
    (F : Fun K "read_all" "SchemaReader.read_all" s_SchemaReader_read_all f fd) : FnOk P w K mg base (L2.CX P w) 8 f fd ["self"] (sp_read_all ad) := by
  refine F.okX sc_SchemaReader_read_all (fun vs H Q E h => ?_) (fun cdv A outer s H vs Q E hr h => ⟨_, (pss_cons (ps_whileO (passes_of rfl) (pt_cmpR op_ne (pe_mc0 (pv 0) T.cl_SchemaReader m_SchemaReader_sort_here (hr.mono (by decide)) pass0) (pe_cst (by rfl) T.k_END) (nomark _)) (pss_one (ps_expr (pe_bm PySem.F.plainAttrs_list PySem.F.slot_list_append PySem.F.type_list_append mt_appL (pe_fl T.cl_SchemaReader T.n_SchemaReader_schema (pv 0)) (pa_cons (pe_mc0 (pv 0) T.cl_SchemaReader m_SchemaReader_read_table (hr.mono (by decide)) (passes_call (takes_of rfl rfl rfl rfl) (fun _ _ _ _ h => h))) pa_nil))))) (pss_one (ps_expr (pe_mc0 (pv 0) T.cl_SchemaReader m_SchemaReader_find_targets (hr.mono (by decide)) (passes_call (takes_of rfl rfl rfl rfl) (fun _ _ _ _ h => h)))))), ?_⟩)
  · obtain ⟨a, tl, sl, rl, ts, pos, rfl, _⟩ := h
    rfl
  obtain ⟨a, tl, sl, rl, ts, pos, rfl, rw, hsl, hrl, k1, k2⟩ := h
  refine ⟨⟨fun m σ H' => ∃ (q : Nat) (xs : List TI), σ = [some (.ref a)] ∧ m = 5 - xs.length ∧ xs.length ≤ 4 ∧ readTables 4 [] (Sx ts pos) = readTables (4 - xs.length) (xs.map (·.rt)) (Sx ts q) ∧ RdW ad H' a tl sl rl ts q ∧ H' sl = some (.lst (xs.map fun x => V.ref x.ta)) ∧ (∀ x ∈ xs, TabAt ad H' rawG x) ∧ RefL H' rl (refsX xs) ∧ (refsX xs).length ≤ 4 * xs.length ∧ ((prs xs).map (·.1)).Nodup ∧ (∀ c ∈ (prs xs).map (·.1), H c = none) ∧ (∀ x ∈ xs, x.cl ≠ sl ∧ x.cl ≠ rl) ∧ (∀ x ∈ xs, H x.cl = none) ∧ Kp [a, rl, sl] H H',
      ⟨_, _, [], rfl, rfl, by simp, rfl, rw, hsl, by simp, hrl, Nat.zero_le _, List.nodup_nil, (by intro c hc; cases hc), (by intro c hc; cases hc), (by intro c hc; cases hc), Kp.refl _ _⟩, ?_⟩⟩
  rintro m σ H1 ⟨q, xs, rfl, rfl, hx4, eR, rw1, hsl1, hxs, hr1, hrn, hnd, hfr, hcl, hcf, k01⟩
  obtain ⟨t, rt, ht⟩ := rw1.at
  have ov := is_over rw1.wf ht
  obtain ⟨dx1, h11⟩ := rw1.r.ex
  walk_at "rd"
  refine ifnd (fun h2 => ?_) (fun h2 => ?_)
  · have h2 : ¬ t.sort = tE := fun z => h2 (by show V.str (Tw.T t.sort) = _; rw [z])
    have no : ¬ isOver (Sx ts q) = true := fun z => h2 (ov.mp z)
    have eS : readTables (4 - xs.length) (xs.map (·.rt)) (Sx ts q) = (tabS xs.length (xs.map (·.rt.name)) (Sx ts q)).bind fun c => readTables (4 - (xs.length + 1)) (xs.map (·.rt) ++ [c.1]) c.2 := by
      rw [readTables_eq xs.length (xs.map (·.rt)) (Sx ts q) (by rw [List.length_map]) hx4, if_neg no, List.map_map]; rfl
    refine wnx ?_
    walk_at "rd"
    refine ⟨fun rt' n eO hn x H2 ex hx2 r2 tk2 hr2 fx1 fx2 fx3 fx4 k12 => ?_, fun f eE => ?_⟩
    · subst ex
      have hxl := Paired.length hx2.cols
      have hcc := tabS_len eO
      have asl : sl ≠ a := fun z => by rw [z, h11] at hsl1; cases hsl1
      have nsl : sl ∉ [a, rl] := by simp [asl, rw.sep.2.2]
      have hsl2 := k12 _ _ nsl hsl1
      have hlx : (xs.map fun x => V.ref x.ta).length ≤ 4 := by rw [List.length_map]; exact hx4
      have h5 : xs.length ≠ 4 := fun z => by
        rw [z] at eO
        exact tabS_four eO
      walk_at "rd"
      intro H3 e3
      have k23 : Kp [sl] H2 H3 := by rw [e3]; exact Kp.upd (by simp)
      have n1 : ∀ {b : Addr} {u : HO}, H2 b = some u → (∀ vs, u ≠ .lst vs) → H3 b = some u := fun {b u} e hu => k23 b u (fun m => by
        rw [List.mem_singleton.mp m, hsl2] at e
        exact hu _ (Option.some.inj e).symm) e
      have tab3 : ∀ {y : TI}, TabAt ad H2 rawG y → y.cl ≠ sl → TabAt ad H3 rawG y := fun {y} hy hne => by
        obtain ⟨⟨d, e1⟩, e2, e4⟩ := hy
        exact ⟨⟨d, n1 e1 (by intro vs z; cases z)⟩, k23 _ _ (by simpa using hne) e2, Paired.mono (fun ca c hc => by
          obtain ⟨d, hd⟩ := hc.ex
          exact ⟨d, n1 hd (by intro vs z; cases z)⟩) e4⟩
      have hxsl : x.cl ≠ sl := fun z => by rw [z, hsl1] at fx2; cases fx2
      have rlsl : rl ∉ [sl] := by simp [rw.sep.2.2.symm]
      obtain ⟨d2, hd2⟩ := r2.ex
      have fr : ∀ {c : Addr}, H1 c = none → H c = none := fun {c} e => by
        refine fresh_of k01 e fun y hy e2 => ?_
        simp only [List.mem_cons, List.not_mem_nil, or_false] at hy
        rcases hy with rfl | rfl | rfl
        · rw [h11] at e2; cases e2
        · obtain ⟨ww, hw, _⟩ := hr1.ex
          rw [hw] at e2; cases e2
        · rw [hsl1] at e2; cases e2
      have only := only_rdr rw1.r hr1
      have tab2 : ∀ y ∈ xs, TabAt ad H2 rawG y := fun y hy => by
        obtain ⟨⟨d, e1⟩, e2, e4⟩ := hxs y hy
        refine ⟨⟨d, k12 _ _ (fun m => ?_) e1⟩, k12 _ _ (fun m => ?_) e2, cols_kp k12 only e4⟩
        · obtain ⟨_, _, _, _, _, z⟩ := only _ m _ _ _ e1
          exact absurd (congrArg List.length z) (by show (2 : Nat) ≠ 4; decide)
        · simp only [List.mem_cons, List.not_mem_nil, or_false] at m
          rcases m with z | z
          · rw [z, h11] at e2; cases e2
          · exact (hcl y hy).2 z
      have hxrl : x.cl ≠ rl := fun z => by
        obtain ⟨ww, hw, _⟩ := hr1.ex
        rw [z, hw] at fx2; cases fx2
      have r3 : RdrAt ad H3 a tl sl rl n := ⟨d2, n1 hd2 (by intro vs z; cases z)⟩
      have tk3 : TokL H3 tl ts := tk2.kp k23 (no_tupL hsl2) (by simpa using rw.sep.2.1)
      have hr3 : RefL H3 rl (refsX (xs ++ [x])) := by
        rw [refsX_snoc]
        exact hr2.kp k23 (no_tupL hsl2) rlsl
      walk_at "rd"
      refine ⟨⟨5 - (xs.length + 1), by omega, n, xs ++ [x], rfl, by rw [List.length_append]; rfl, by rw [List.length_append, List.length_singleton]; omega, ?_, ⟨r3, tk3, rw1.wf, hn, rw1.sep⟩, ?_, ?_, hr3, ?_, ?_, ?_, ?_, ?_, (k01.trans (k12.wider (by simp))).trans (k23.wider (by simp))⟩⟩
      · rw [eR, eS, eO, List.map_append, List.length_append]; rfl
      · rw [e3, List.map_append]; exact upd_same
      · intro y hy
        rcases List.mem_append.mp hy with hy | hy
        · exact tab3 (tab2 y hy) (hcl y hy).1
        · rw [List.mem_singleton.mp hy]; exact tab3 hx2 hxsl
      · rw [refsX_snoc, List.length_append, List.length_append, List.length_singleton]
        have := refsZ_len x.cas x.rt.columns
        omega
      · rw [prs_snoc _ _ hxl, List.nodup_append]
        refine ⟨hnd, fx4, fun c hc c' hc' e => ?_⟩
        obtain ⟨p, hp, rfl⟩ := List.mem_map.mp hc
        obtain ⟨d, hd⟩ := (colX_of hxs p hp).ex
        rw [e, fx3 _ hc'] at hd; cases hd
      · intro c hc
        rw [prs_snoc _ _ hxl] at hc
        rcases List.mem_append.mp hc with hc | hc
        · exact hfr c hc
        · exact fr (fx3 c hc)
      · intro y hy
        rcases List.mem_append.mp hy with hy | hy
        · exact hcl y hy
        · rw [List.mem_singleton.mp hy]; exact ⟨hxsl, hxrl⟩
      · intro y hy
        rcases List.mem_append.mp hy with hy | hy
        · exact hcf y hy
        · rw [List.mem_singleton.mp hy]; exact fr fx2
    · have e1 : (readTables 4 [] (Sx ts pos)).bind tablesFor = .error f := by rw [eR, eS, eE]; rfl
      exact (k2 f e1).sub k01 (by simp)
  · have h2 : t.sort = tE := by
      injection h2 with h2
      exact T_inj h2
    have yo : isOver (Sx ts q) = true := ov.mpr h2
    have eS : readTables (4 - xs.length) (xs.map (·.rt)) (Sx ts q) = .ok (xs.map (·.rt)) := by
      rw [readTables_eq xs.length (xs.map (·.rt)) (Sx ts q) (by rw [List.length_map]) hx4, if_pos yo]
    have eT : (readTables 4 [] (Sx ts pos)).bind tablesFor = tablesFor (xs.map (·.rt)) := by rw [eR, eS]; rfl
    have r1 := rw1.r
    walk_at "rd"
    refine ⟨fun sc es H2 k12 hs2 => ?_, fun f ef => ?_⟩
    · have an : a ∉ (prs xs).map (·.1) := fun m => by
        obtain ⟨p, hp, e⟩ := List.mem_map.mp m
        obtain ⟨d, hd⟩ := (colX_of hxs p hp).ex
        rw [e, h11] at hd
        injection hd with hd; injection hd with _ _ hd
        exact absurd (congrArg List.length hd) (by show (4 : Nat) ≠ 7; decide)
      exact k1 sc (eT.trans es) H2 _ ⟨_, k12 _ _ an h11⟩ (hs2.imp fun c ⟨x, hx, e⟩ => by rw [← e]; exact hcf x hx) (k01.trans' k12 hfr)
    · intro d H3 k13 e3
      exact k2 f (eT.trans ef) d H3 (k01.trans' k13 hfr) e3
end Tw
namespace Tw
open PySem PySem.Spec PyProof.Rows L2
open VauowBase (readTables tablesFor)

variable {P : Program} {w : World} {K : PySem.W.Frag} {mg : Str → Option Value} {base : Heap} {ad : Ads}
/-! ### a text's tokens are well formed -/
theorem wf_toks : ∀ (n : Nat) (l : List Nat) (p : Nat), l.length < n → WfT (toks n l p)
  | 0, l, p, h => absurd h (Nat.not_lt_zero _)
  | n + 1, [], p, h => ⟨fun i t e hl => by simp [toks] at hl, ⟨p, rfl⟩, by simp [toks]⟩
  | n + 1, c :: r, p, h => by
    have tl := tokLen_pos c r
    have ih := wf_toks n (((c :: r).drop (tokLen (c :: r))).drop (skp false ((c :: r).drop (tokLen (c :: r))))) (p + tokLen (c :: r) + skp false ((c :: r).drop (tokLen (c :: r)))) (by
      rw [List.length_drop, List.length_drop]; omega)
    unfold toks
    generalize toks n (((c :: r).drop (tokLen (c :: r))).drop (skp false ((c :: r).drop (tokLen (c :: r))))) (p + tokLen (c :: r) + skp false ((c :: r).drop (tokLen (c :: r)))) = us at ih ⊢
    refine ⟨fun i t e hl => ?_, ?_, by simp⟩
    · cases i with
      | zero =>
        obtain rfl := Option.some.inj e
        exact ⟨isTok_take c r, rfl⟩
      | succ i => exact ih.each i t (by simpa using e) (by simpa using hl)
    · obtain ⟨q, hq⟩ := ih.last
      refine ⟨q, ?_⟩
      cases us with
      | nil => exact absurd ih.pos (Nat.lt_irrefl 0)
      | cons u us => exact hq
theorem wf_tokensM (l : List Nat) : WfT (tokensM l) := wf_toks _ _ _ (by rw [List.length_drop]; omega)
theorem tok_len (ts : List Tk) (W : WfT ts) : 0 < ts.length := W.pos
theorem al2 {H : Hp} {p : Addr} {o : HO} (n : H p = none) : Same H (upd H p o) ∧ upd H p o p = some o := ⟨fun b u e => by rw [upd_ne (ne_of_none e n)]; exact e, upd_same⟩
def bI (bs : List Nat) : List Int := bs.map Int.ofNat
abbrev s_SchemaReader_init : Stmt := inClass (top 85) 0
theorem sc_SchemaReader_init : FnScope ["self", "tokens"] ["self", "tokens"] (defScope s_SchemaReader_init) := ⟨rfl, rfl, rfl, by decide +kernel, rfl, by decide +kernel, by decide +kernel⟩
def sp_SchemaReader_init (ad : Ads) : Sp := fun vs H Q _ => ∃ (x dx tl : Addr), vs = [.ref x, .ref tl] ∧ H x = some (.ins ad.SchemaReader dx []) ∧ ∀ H' sl rl, RdrAt ad H' x tl sl rl 0 → H' sl = some (.lst []) → H' rl = some (.lst []) → H sl = none → H rl = none → sl ≠ rl → Kp [x] H H' → Q .non H'
theorem ok_SchemaReader_init {f : Addr} {fd : FuncData} (T : Tp K mg ad) (F : Fun K "__init__" "SchemaReader.__init__" s_SchemaReader_init f fd) : FnOk P w K mg base CX0 1 f fd ["self", "tokens"] (sp_SchemaReader_init ad) := by
  refine F.ok sc_SchemaReader_init (fun vs H Q E h => ?_) (fun cdv A outer s H vs Q E hr h => ⟨_, (pss_cons (ps_fl T.cl_SchemaReader T.n_SchemaReader_tokens (pv 0) (pv 1)) (pss_cons (ps_fl T.cl_SchemaReader T.n_SchemaReader_position (pv 0) pe_int) (pss_cons (ps_fl T.cl_SchemaReader T.n_SchemaReader_schema (pv 0) (pe_lst pa_nil)) (pss_one (ps_fl T.cl_SchemaReader T.n_SchemaReader_references (pv 0) (pe_lst pa_nil)))))), ?_⟩)
  · obtain ⟨x, dx, tl, rfl, _⟩ := h
    rfl
  obtain ⟨x, dx, tl, rfl, hx, k⟩ := h
  walk_at "rd"
  intro H1 e1
  have h1 : H1 x = some (.ins ad.SchemaReader dx [("tokens", .ref tl)]) := by rw [e1]; exact upd_same
  have k1 : Kp [x] H H1 := by rw [e1]; exact Kp.upd (by simp)
  clear e1
  walk_at "rd"
  intro H2 e2
  have h2 : H2 x = some (.ins ad.SchemaReader dx [("tokens", .ref tl), ("position", .int (0 : Nat))]) := by rw [e2]; exact upd_same
  have k2 : Kp [x] H H2 := k1.trans (by rw [e2]; exact Kp.upd (by simp))
  clear e2
  walk_at "rd"
  intro sl n3
  obtain ⟨s3, hsl⟩ := al2 (o := .lst []) n3
  generalize upd H2 sl (.lst []) = H3 at s3 hsl ⊢
  have h3 := s3 _ _ h2
  have xsl : sl ≠ x := fun z => by rw [z, h2] at n3; cases n3
  have sl0 : H sl = none := fresh_of k2 n3 (fun y hy e => by
    rw [List.mem_singleton.mp hy, h2] at e; cases e)
  walk_at "rd"
  intro H4 e4
  have h4 : H4 x = some (.ins ad.SchemaReader dx [("tokens", .ref tl), ("position", .int (0 : Nat)), ("schema", .ref sl)]) := by rw [e4]; exact upd_same
  have hsl4 : H4 sl = some (.lst []) := by rw [e4, upd_ne xsl]; exact hsl
  have k4 : Kp [x] H H4 := (k2.trans (Kp.of_same s3)).trans (by rw [e4]; exact Kp.upd (by simp))
  clear e4
  walk_at "rd"
  intro rl n5
  obtain ⟨s5, hrl⟩ := al2 (o := .lst []) n5
  generalize upd H4 rl (.lst []) = H5 at s5 hrl ⊢
  have h5 := s5 _ _ h4
  have xrl : rl ≠ x := fun z => by rw [z, h4] at n5; cases n5
  have rl0 : H rl = none := fresh_of k4 n5 (fun y hy e => by
    rw [List.mem_singleton.mp hy, h4] at e; cases e)
  have srl : sl ≠ rl := fun z => by rw [← z, hsl4] at n5; cases n5
  walk_at "rd"
  intro H6 e6
  exact k H6 sl rl ⟨dx, by rw [e6]; exact upd_same⟩ (by rw [e6, upd_ne xsl]; exact s5 _ _ hsl4) (by rw [e6, upd_ne xrl]; exact hrl) sl0 rl0 srl ((k4.trans (Kp.of_same s5)).trans (by rw [e6]; exact Kp.upd (by simp)))
/-! ### read_schema -/
abbrev s_read_schema : Stmt := top 83
theorem sc_read_schema : FnScope ["numbers", "reader"] ["numbers"] (defScope s_read_schema) := ⟨rfl, rfl, rfl, by decide +kernel, rfl, by decide +kernel, by decide +kernel⟩
def sp_read_schema (ad : Ads) : Sp := fun vs H Q E => ∃ (na : Addr) (bs : List Nat), vs = [.ref na] ∧ H na = some (.lst ((bI bs).map V.int)) ∧ bs.length ≤ 5000 ∧
  (∀ s, VauowBase.readSchema bs = .ok s → ∀ sl H', Same H H' → SchAtN (fun c => H c = none) ad H' sl s → H sl = none → Q (.ref sl) H') ∧
  (∀ f, VauowBase.readSchema bs = .error f → Rz ad [] H E f.1 f.2)
theorem ok_read_schema {f : Addr} {fd : FuncData} (T : Tp K mg ad)
    (c_tokens_of : Fc P w K mg base CX0 3 "tokens_of" ["text"] sp_tokens_of)
    (c_characters_of : Fc P w K mg base CX0 1 "characters_of" ["numbers"] sp_characters_of)
    (i_SchemaReader : Ic P w K mg base 1 ad.SchemaReader ["self", "tokens"] (sp_SchemaReader_init ad))
    (m_SchemaReader_read_all : Mc P w K mg base (L2.CX P w) 8 ad.SchemaReader "read_all" ["self"] (sp_read_all ad))
    (F : Fun K "read_schema" "read_schema" s_read_schema f fd) : FnOk P w K mg base (L2.CX P w) 9 f fd ["numbers"] (sp_read_schema ad) := by
  refine F.okX sc_read_schema (fun vs H Q E h => ?_) (fun cdv A outer s H vs Q E hr h => ⟨_, (pss_cons (ps_set (i := 1) sc_read_schema.nd rfl (.inl rfl) (pe_mkc i_SchemaReader (hr.mono (by decide)) (by rfl) T.g_SchemaReader (pa_cons (pe_fc c_tokens_of (hr.mono (by decide)) (by rfl) (pa_cons (pe_fc c_characters_of (hr.mono (by decide)) (by rfl) (pa_cons (pv 0) pa_nil)) pa_nil)) pa_nil))) (pss_cons (ps_expr (pe_mc0 (pv 1) T.cl_SchemaReader m_SchemaReader_read_all (hr.mono (by decide)) (passes_call (takes_of rfl rfl rfl rfl) (fun _ _ _ _ h => h)))) (pss_one (ps_ret (pe_fl T.cl_SchemaReader T.n_SchemaReader_schema (pv 1)))))), ?_⟩)
  · obtain ⟨na, bs, rfl, _⟩ := h
    rfl
  obtain ⟨na, bs, rfl, hna, hlen, k1, k2⟩ := h
  have hl2 : (bI bs).length ≤ 5000 := by unfold bI; rw [List.length_map]; exact hlen
  have e0 : (bI bs).map chr1 = bs.map bch := by unfold bI; rw [List.map_map]; rfl
  have hl3 : (bs.map bch).length ≤ 5000 := by rw [List.length_map]; exact hlen
  walk_at "rd"
  intro H1 s1
  rw [e0]
  walk_at "rd"
  intro tl ws H2 ntl s2 htl htk _
  have tk2 : TokL H2 tl (tokensM (bs.map bch)) := ⟨ws, htl, htk⟩
  walk_at "rd"
  intro x dx nx nd ne
  walk_at "rd"
  intro H3 sl rl r3 hsl3 hrl3 nsl nrl srl k3
  have W := wf_tokensM (bs.map bch)
  have s23 : Same H2 H3 := fun b u e => by
    have n1 : b ≠ x := ne_of_none e nx
    refine k3 b u (by simpa using n1) ?_
    rw [upd_ne n1, upd_ne (ne_of_none e nd)]; exact e
  have s03 : Same H H3 := (s1.trans s2).trans s23
  have old : ∀ {b : Addr}, upd (upd H2 dx (.own x)) x (.ins ad.SchemaReader dx []) b = none → H2 b = none := fun {b} e => by
    by_cases h1 : b = x
    · rw [h1]; exact nx
    · rw [upd_ne h1] at e
      by_cases h2 : b = dx
      · rw [h2]; exact nd
      · rw [upd_ne h2] at e; exact e
  have nsl := old nsl
  have nrl := old nrl
  have rw3 : RdW ad H3 x tl sl rl (tokensM (bs.map bch)) 0 := ⟨r3, tk2.kp (as := []) (Kp.of_same s23) (by simp) (by simp), W, W.pos, ⟨fun z => (by rw [z, nrl] at htl; cases htl), fun z => (by rw [z, nsl] at htl; cases htl), srl⟩⟩
  have rl3 : RefL H3 rl [] := ⟨[], hrl3, .nil⟩
  have eS : (readTables 4 [] (Sx (tokensM (bs.map bch)) 0)).bind tablesFor = VauowBase.readSchema bs := by
    unfold Sx VauowBase.readSchema
    rw [List.drop_zero, ← tokens_eq]; rfl
  have h0 : ∀ y ∈ [x, rl, sl], H y = none := by
    have n0 : ∀ {b : Addr}, H2 b = none → H b = none := fun {b} e => by
      cases e2 : H b with
      | none => rfl
      | some u => rw [s2 _ _ (s1 _ _ e2)] at e; cases e
    intro y hy
    simp only [List.mem_cons, List.not_mem_nil, or_false] at hy
    rcases hy with rfl | rfl | rfl
    · exact n0 nx
    · exact n0 nrl
    · exact n0 nsl
  have k00 : ∀ {H4 : Hp}, Kp [x, rl, sl] H3 H4 → Same H H4 := fun {H4} k b u e => k b u (fun m => by rw [h0 b m] at e; cases e) (s03 b u e)
  clear k3 old
  obtain ⟨d3, hd3⟩ := r3.ex
  walk_at "rd"
  refine ⟨fun sc es H4 n r4 hs4 k34 => ?_, fun f ef d H4 k34 e4 => ?_⟩
  · obtain ⟨d4, hd4⟩ := r4.ex
    walk_at "rd"
    exact k1 sc (eS.symm.trans es) sl H4 (k00 k34) (hs4.imp fun c e => fresh_of (as := []) (Kp.of_same s03) e (by simp)) (h0 sl (by simp))
  · exact k2 f (eS.symm.trans ef) d H4 (Kp.of_same (k00 k34)) e4
end Tw
namespace Tw
open PySem PySem.Spec PyProof.Rows L2
open VauowBase (kindText columnText tableText writeSchema intText decimal ascii)

variable {P : Program} {w : World} {K : PySem.W.Frag} {mg : Str → Option Value} {base : Heap} {ad : Ads}
/-! ### numbers as texts -/
theorem txt_int (z : Int) : Str.ofString (toString z) = T (intText z) := by
  refine TL.ext_tl ?_
  rw [TL.tl_ofString]
  show _ = intText z
  unfold intText decimal
  cases z with
  | ofNat m =>
    rw [if_neg (by exact Int.not_lt.mpr (Int.natCast_nonneg m))]
    show (Nat.repr m).toList.map Char.toNat = (Nat.toDigits 10 m).map Char.toNat
    unfold Nat.repr; simp
  | negSucc m =>
    rw [if_pos (Int.negSucc_lt_zero m)]
    show ("-" ++ Nat.repr (m + 1)).toList.map Char.toNat = 45 :: (Nat.toDigits 10 (m + 1)).map Char.toNat
    rw [String.toList_append, List.map_append]
    unfold Nat.repr; simp
theorem int_len {z : Int} (h1 : -1000000 ≤ z) (h2 : z ≤ 1000000) : (intText z).length ≤ 8 := by
  have e := congrArg (fun x : Str => x.length) (txt_int z)
  have e2 := int_text_length_le10 (a := z) (k := 7) (by decide) (by omega)
  have e3 : (Str.ofString (toString z)).length = (toString z).length := PySem.ofString_length _
  have e4 : (T (intText z)).length = (intText z).length := T_len _
  have e : (Str.ofString (toString z)).length = (T (intText z)).length := e
  omega
theorem int_log {z : Int} (h1 : -1000000 ≤ z) (h2 : z ≤ 1000000) : z.natAbs.log2 < 1920 := by
  by_cases h : z.natAbs = 0
  · rw [h]; decide
  · refine (Nat.log2_lt h).mpr (Nat.lt_of_lt_of_le (show z.natAbs < 2 ^ 20 by omega) (Nat.pow_le_pow_right (n := 2) (i := 20) (j := 1920) (by decide) (by decide)))
theorem lit (s : String) : Str.ofString s = T (ascii s) := TL.ext_tl (by rw [TL.tl_ofString]; rfl)
theorem fits {x : Str} {a : List Nat} (e : x = T a) (h : a.length ≤ 100000) : x.length ≤ sizeLine := by
  rw [e, T_len]; exact Nat.le_trans h (by decide : 100000 ≤ sizeLine)
theorem fits2 {x y : Str} {a b : List Nat} (e : x = T a) (e2 : y = T b) (h : a.length + b.length ≤ 100000) : x.length + y.length ≤ sizeLine := by
  rw [e, e2, T_len, T_len]; exact Nat.le_trans h (by decide : 100000 ≤ sizeLine)
theorem app2 {x y : Str} {a b : List Nat} (e : x = T a) (e2 : y = T b) : x ++ y = T (a ++ b) := by rw [e, e2, T_app]
/-! ### a column's kind -/
structure GC (c : RC) : Prop where
  nm : c.name.length ≤ 12
  lo1 : -1000000 ≤ c.lo
  lo2 : c.lo ≤ 1000000
  hi1 : -1000000 ≤ c.hi
  hi2 : c.hi ≤ 1000000
  aw : c.away.length ≤ 12
def numT (lo hi : Int) : List Nat := kindText [] (.number lo hi)
theorem numT_eq (lo hi : Int) : numT lo hi = ascii "number" ++ (if lo = -1000000 ∧ hi = 1000000 then [] else ascii " from " ++ (intText lo ++ (ascii " to " ++ intText hi))) := rfl
abbrev s_number_kind : Stmt := top 43
theorem sc_number_kind : FnScope ["column"] ["column"] (defScope s_number_kind) := ⟨rfl, rfl, rfl, by decide +kernel, rfl, by decide +kernel, by decide +kernel⟩
def sp_number_kind (ad : Ads) : Sp := fun vs H Q _ => ∃ (ca : Addr) (c : RC), vs = [.ref ca] ∧ ColAt ad H ca c ∧ GC c ∧ Q (.str (T (numT c.lo c.hi))) H
theorem ok_number_kind {f : Addr} {fd : FuncData} (T : Tp K mg ad) (F : Fun K "number_kind" "number_kind" s_number_kind f fd) : FnOk P w K mg base CX0 1 f fd ["column"] (sp_number_kind ad) := by
  refine F.ok sc_number_kind (fun vs H Q E h => ?_) (fun cdv A outer s H vs Q E hr h => ⟨_, (pss_cons (ps_if (PW.pt (pw_and (pt_cmpR op_eq (pe_fl T.cl_Column T.n_Column_low (pv 0)) (pe_un un_neg (pe_cst (by rfl) T.k_FARTHEST)) (nomark _)) (pw_and1 (pt_cmpR op_eq (pe_fl T.cl_Column T.n_Column_high (pv 0)) (pe_cst (by rfl) T.k_FARTHEST) (nomark _))))) (pss_one (ps_ret pe_str)) pss_nil) (pss_one (ps_ret (pe_op op_add_str (pe_op op_add_str (pe_op op_add_str pe_str (pe_callTy call_str_int (by rfl) T.b_str (by decide +kernel) (pa_cons (pe_fl T.cl_Column T.n_Column_low (pv 0)) pa_nil))) pe_str) (pe_callTy call_str_int (by rfl) T.b_str (by decide +kernel) (pa_cons (pe_fl T.cl_Column T.n_Column_high (pv 0)) pa_nil)))))), ?_⟩)
  · obtain ⟨ca, c, rfl, _⟩ := h
    rfl
  obtain ⟨ca, c, rfl, hc, g, k⟩ := h
  obtain ⟨dx, h1⟩ := hc.ex
  have l1 := int_log g.lo1 g.lo2
  have l2 := int_log g.hi1 g.hi2
  have i1 := int_len g.lo1 g.lo2
  have i2 := int_len g.hi1 g.hi2
  have a1 : (ascii "number from ").length = 12 := rfl
  have a2 : (ascii " to ").length = 4 := rfl
  have n1 := fits2 (lit "number from ") (txt_int c.lo) (by omega)
  have t1 := app2 (lit "number from ") (txt_int c.lo)
  have n2 := fits2 t1 (lit " to ") (by rw [List.length_append]; omega)
  have t2 := app2 t1 (lit " to ")
  have n3 := fits2 t2 (txt_int c.hi) (by rw [List.length_append, List.length_append]; omega)
  have t3 := app2 t2 (txt_int c.hi)
  have k1 : ¬ (c.lo = -1000000 ∧ c.hi = 1000000) → Q (.str (Tw.T (((ascii "number from " ++ intText c.lo) ++ ascii " to ") ++ intText c.hi))) H := fun h => by
    have e : numT c.lo c.hi = ((ascii "number from " ++ intText c.lo) ++ ascii " to ") ++ intText c.hi := by
      rw [numT_eq, if_neg h, show ascii "number from " = ascii "number" ++ ascii " from " from rfl]
      simp only [List.append_assoc]
    rw [← e]; exact k
  rw [← t3] at k1
  walk_at "rd"
  refine ifd (fun h2 => ?_) (fun h2 => ?_)
  · walk_at "rd"
    refine ifd (fun h3 => ?_) (fun h3 => ?_)
    · injection h2 with h2
      injection h3 with h3
      walk_at "rd"
      refine cast (congrArg (fun z => Q (.str z) H) ?_) k
      rw [numT_eq, if_pos ⟨h2, h3⟩, lit, List.append_nil]
    · walk_at "rd"
      exact k1 fun z => h3 (by rw [z.2])
  · refine ifb (fun z => by cases z) (fun _ => ?_)
    walk_at "rd"
    exact k1 fun z => h2 (by rw [z.1])
def refT (nm : List Nat) (nn : Bool) (aw : List Nat) : List Nat := ascii "ref" ++ (32 :: nm ++ ((if nn then ascii " none" else []) ++ (if aw = [] then [] else 32 :: aw)))
abbrev s_reference_kind : Stmt := top 44
theorem sc_reference_kind : FnScope ["schema", "column", "words"] ["schema", "column"] (defScope s_reference_kind) := ⟨rfl, rfl, rfl, by decide +kernel, rfl, by decide +kernel, by decide +kernel⟩
def sp_reference_kind (ad : Ads) : Sp := fun vs H Q _ => ∃ (sl ca : Addr) (s : VauowBase.Schema) (c : RC) (t : Nat) (tb : VauowBase.Table), vs = [.ref sl, .ref ca] ∧ SchAt ad H sl s ∧ ColAt ad H ca c ∧ GC c ∧ c.tgt = some t ∧ s[t]? = some tb ∧ tb.name.length ≤ 12 ∧ ∀ H', Same H H' → Q (.str (T (refT tb.name c.none_ c.away))) H'
theorem ok_reference_kind {f : Addr} {fd : FuncData} (T : Tp K mg ad) (F : Fun K "reference_kind" "reference_kind" s_reference_kind f fd) : FnOk P w K mg base CX0 1 f fd ["schema", "column"] (sp_reference_kind ad) := by
  refine F.ok sc_reference_kind (fun vs H Q E h => ?_) (fun cdv A outer s H vs Q E hr h => ⟨_, (pss_cons (ps_set (i := 2) sc_reference_kind.nd rfl (.inl rfl) (pe_lst (pa_cons pe_str (pa_cons (pe_fl T.cl_Table T.n_Table_name (pe_ix ix_list (pv 0) (pe_fl T.cl_Column T.n_Column_target (pv 1)) (fun _ _ => rfl))) pa_nil)))) (pss_cons (ps_if (pt_val (pe_fl T.cl_Column T.n_Column_allows_none (pv 1))) (pss_one (ps_expr (pe_bm PySem.F.plainAttrs_list PySem.F.slot_list_append PySem.F.type_list_append mt_appL (pv 2) (pa_cons pe_str pa_nil)))) pss_nil) (pss_cons (ps_if (pt_cmpR op_ne (pe_fl T.cl_Column T.n_Column_removal (pv 1)) pe_str (nomark _)) (pss_one (ps_expr (pe_bm PySem.F.plainAttrs_list PySem.F.slot_list_append PySem.F.type_list_append mt_appL (pv 2) (pa_cons (pe_fl T.cl_Column T.n_Column_removal (pv 1)) pa_nil)))) pss_nil) (pss_one (ps_ret (pe_join pe_str (pv 2))))))), ?_⟩)
  · obtain ⟨sl, ca, s, c, t, tb, rfl, _⟩ := h
    rfl
  obtain ⟨sl, ca, s, c, t, tb, rfl, hs, hc, g, ht, htb, hnm, k⟩ := h
  obtain ⟨dx, h1⟩ := hc.ex
  obtain ⟨tas, h2, pr⟩ := hs.ex
  obtain ⟨ta, hta, dt, cl, cas, h3, _⟩ := paired_get pr htb
  have hv : (tas.map V.ref)[t]? = some (V.ref ta) := by rw [List.getElem?_map, hta]; rfl
  have e1 : (colF c).lookup ("target" : Str) = some (V.int t) := by show some (tgtV c.tgt) = _; rw [ht]; rfl
  walk_at "rd"
  intro p np
  obtain ⟨s1, hp⟩ := al2 (o := .lst [V.str (Str.ofString "ref"), V.str (Tw.T tb.name)]) np
  have fin : ∀ (ys : List (List Nat)) (H' : Hp), Same H H' → TL.joinL [32] ys = refT tb.name c.none_ c.away → (ys.map List.length).sum + ys.length ≤ 100 → ∀ xs : List Str, xs = ys.map Tw.T → (xs.map (·.length)).sum + xs.length * (Str.ofString " ").length ≤ 16777216 ∧ Q (.str (Txt.join (Str.ofString " ") xs)) H' := fun ys H' s' e hl xs ex => by
    subst ex
    refine ⟨?_, ?_⟩
    · rw [List.map_map, List.length_map, show (Str.ofString " ").length = 1 from rfl, Nat.mul_one]
      have : ((fun s : Str => s.length) ∘ Tw.T) = List.length := rfl
      rw [this]; omega
    · refine cast (congrArg (fun z => Q (.str z) H') ?_) (k H' s')
      refine TL.ext_tl ?_
      rw [TL.join_eq, TL.tl_join, ← e, List.map_map]
      have : TL.tl ∘ Tw.T = fun l => l := rfl
      rw [this, List.map_id']; rfl
  generalize upd H p (.lst [V.str (Str.ofString "ref"), V.str (Tw.T tb.name)]) = H1 at s1 hp ⊢
  have h11 := s1 _ _ h1
  have keep : ∀ {H2 : Hp} {o : HO}, Same H H2 → Same H (upd H2 p o) := fun s b u e => by rw [upd_ne (ne_of_none e np)]; exact s b u e
  have haw := g.aw
  walk_at "rd"
  refine ifb (b := c.none_) (fun hb => ?_) (fun hb => ?_)
  · walk_at "rd"
    intro H2 e2
    have hp2 : H2 p = some (.lst [V.str (Str.ofString "ref"), V.str (Tw.T tb.name), V.str (Str.ofString "none")]) := by rw [e2]; exact upd_same
    have s2 : Same H H2 := by rw [e2]; exact keep s1
    have h12 := s2 _ _ h1
    walk_at "rd"
    refine ifnd (fun h5 => ?_) (fun h5 => ?_)
    · have hne : c.away ≠ [] := fun z => h5 (by show V.str (Tw.T c.away) = _; rw [z]; rfl)
      walk_at "rd"
      intro H3 e3
      have hp3 : H3 p = some (.lst [V.str (Str.ofString "ref"), V.str (Tw.T tb.name), V.str (Str.ofString "none"), V.str (Tw.T c.away)]) := by rw [e3]; exact upd_same
      have s3 : Same H H3 := by rw [e3]; exact keep s2
      walk_at "rd"
      refine ⟨⟨_, rfl⟩, _, rfl, _, p, [ascii "ref", tb.name, ascii "none", c.away].map Tw.T, rfl, rfl, .inl (SqL.of (hp3.trans rfl)), ?_⟩
      exact fin [ascii "ref", tb.name, ascii "none", c.away] H3 s3 (by unfold refT; rw [hb, if_pos rfl, if_neg hne]; simp [TL.joinL, ascii]) (by simp [ascii]; omega) _ rfl
    · have hne : c.away = [] := T_inj (by injection h5)
      walk_at "rd"
      refine ⟨⟨_, rfl⟩, _, rfl, _, p, [ascii "ref", tb.name, ascii "none"].map Tw.T, rfl, rfl, .inl (SqL.of (hp2.trans rfl)), ?_⟩
      exact fin [ascii "ref", tb.name, ascii "none"] H2 s2 (by unfold refT; rw [hb, if_pos rfl, if_pos hne]; simp [TL.joinL, ascii]) (by simp [ascii]; omega) _ rfl
  · have hp2 := hp
    have s2 := s1
    have h12 := h11
    walk_at "rd"
    refine ifnd (fun h5 => ?_) (fun h5 => ?_)
    · have hne : c.away ≠ [] := fun z => h5 (by show V.str (Tw.T c.away) = _; rw [z]; rfl)
      walk_at "rd"
      intro H3 e3
      have hp3 : H3 p = some (.lst [V.str (Str.ofString "ref"), V.str (Tw.T tb.name), V.str (Tw.T c.away)]) := by rw [e3]; exact upd_same
      have s3 : Same H H3 := by rw [e3]; exact keep s2
      walk_at "rd"
      refine ⟨⟨_, rfl⟩, _, rfl, _, p, [ascii "ref", tb.name, c.away].map Tw.T, rfl, rfl, .inl (SqL.of (hp3.trans rfl)), ?_⟩
      exact fin [ascii "ref", tb.name, c.away] H3 s3 (by unfold refT; rw [hb, if_neg (by decide), if_neg hne]; simp [TL.joinL, ascii]) (by simp [ascii]; omega) _ rfl
    · have hne : c.away = [] := T_inj (by injection h5)
      walk_at "rd"
      refine ⟨⟨_, rfl⟩, _, rfl, _, p, [ascii "ref", tb.name].map Tw.T, rfl, rfl, .inl (SqL.of (hp2.trans rfl)), ?_⟩
      exact fin [ascii "ref", tb.name] H1 s2 (by unfold refT; rw [hb, if_neg (by decide), if_pos hne]; simp [TL.joinL, ascii]) (by simp [ascii]; omega) _ rfl
/-! ### a column's line -/
def GK (n : Nat) : VauowBase.Kind → Prop
  | .number lo hi => -1000000 ≤ lo ∧ lo ≤ 1000000 ∧ -1000000 ≤ hi ∧ hi ≤ 1000000
  | .ref k _ _ => k < n
structure GD (n : Nat) (c : VauowBase.Column) : Prop where
  nm : c.name.length ≤ 12
  kd : GK n c.kind
structure GT (n : Nat) (t : VauowBase.Table) : Prop where
  nm : t.name.length ≤ 12
  len : t.columns.length ≤ 4
  cols : ∀ c ∈ t.columns, GD n c
structure GS (s : VauowBase.Schema) : Prop where
  len : s.length ≤ 4
  tabs : ∀ t ∈ s, GT s.length t
theorem GD.gc {n : Nat} {c : VauowBase.Column} (g : GD n c) : GC (colOf c) := by
  obtain ⟨nm, k, u⟩ := c
  obtain ⟨g1, g2⟩ := g
  cases k with
  | number lo hi => exact ⟨g1, g2.1, g2.2.1, g2.2.2.1, g2.2.2.2, Nat.zero_le _⟩
  | ref t n aw => exact ⟨g1, Int.le_refl _, (by show (-1000000 : Int) ≤ 1000000; decide), (by show (-1000000 : Int) ≤ 1000000; decide), Int.le_refl _, (by show (awT aw).length ≤ 12; cases aw <;> decide)⟩
theorem numT_len {lo hi : Int} (h1 : (intText lo).length ≤ 8) (h2 : (intText hi).length ≤ 8) : (numT lo hi).length ≤ 40 := by
  rw [numT_eq, List.length_append]
  have a0 : (ascii "number").length = 6 := rfl
  have a1 : (ascii " from ").length = 6 := rfl
  have a2 : (ascii " to ").length = 4 := rfl
  split
  · simp [a0]
  · rw [List.length_append, List.length_append, List.length_append]; omega
theorem refT_len {nm aw : List Nat} {nn : Bool} (h1 : nm.length ≤ 12) (h2 : aw.length ≤ 12) : (refT nm nn aw).length ≤ 40 := by
  unfold refT
  have a0 : (ascii "ref").length = 3 := rfl
  have a1 : (ascii " none").length = 5 := rfl
  simp only [List.length_append, List.length_cons]
  have e : (if aw = [] then [] else 32 :: aw : List Nat).length ≤ 13 := by
    split
    · exact Nat.zero_le _
    · rw [List.length_cons]; omega
  have e2 : (if nn = true then ascii " none" else []).length ≤ 5 := by
    cases nn
    · exact Nat.zero_le _
    · exact Nat.le_refl 5
  omega
theorem kind_ref {s : VauowBase.Schema} {t : Nat} {tb : VauowBase.Table} (h : s[t]? = some tb) (n : Bool) (a : VauowBase.Away) : kindText s (.ref t n a) = refT tb.name n (awT a) := by
  show ascii "ref " ++ (((s[t]?).map fun x => x.name).getD [] ++ _) = _
  rw [h]
  unfold refT
  cases a <;> simp [ascii, awT]
abbrev s_column_line : Stmt := top 42
theorem sc_column_line : FnScope ["schema", "column", "told", "unique"] ["schema", "column"] (defScope s_column_line) := ⟨rfl, rfl, rfl, by decide +kernel, rfl, by decide +kernel, by decide +kernel⟩
def sp_column_line (ad : Ads) : Sp := fun vs H Q _ => ∃ (sl ca : Addr) (s : VauowBase.Schema) (c : VauowBase.Column), vs = [.ref sl, .ref ca] ∧ SchAt ad H sl s ∧ ColAt ad H ca (colOf c) ∧ GS s ∧ GD s.length c ∧ ∀ H', Same H H' → (columnText s c).length ≤ 100 → Q (.str (T (columnText s c))) H'
theorem ok_column_line {f : Addr} {fd : FuncData} (T : Tp K mg ad) (c_number_kind : Fc P w K mg base CX0 1 "number_kind" ["column"] (sp_number_kind ad)) (c_reference_kind : Fc P w K mg base CX0 1 "reference_kind" ["schema", "column"] (sp_reference_kind ad))
    (F : Fun K "column_line" "column_line" s_column_line f fd) : FnOk P w K mg base CX0 2 f fd ["schema", "column"] (sp_column_line ad) := by
  refine F.ok sc_column_line (fun vs H Q E h => ?_) (fun cdv A outer s H vs Q E hr h => ⟨_, (pss_cutO (ps_set (i := 2) sc_column_line.nd rfl (.inl rfl) (pe_ifExp (pt_cmpR op_isN (pe_fl T.cl_Column T.n_Column_target (pv 1)) pe_non (nomark _)) (pe_fc c_number_kind (hr.mono (by decide)) (by rfl) (pa_cons (pv 1) pa_nil)) (pe_fc c_reference_kind (hr.mono (by decide)) (by rfl) (pa_cons (pv 0) (pa_cons (pv 1) pa_nil))))) (pss_cons (ps_set (i := 3) sc_column_line.nd rfl (.inl rfl) (pe_ifExp (pt_val (pe_fl T.cl_Column T.n_Column_unique (pv 1))) pe_str pe_str)) (pss_one (ps_ret (pe_op op_add_str (pe_op op_add_str (pe_op op_add_str (pe_op op_add_str (pe_op op_add_str pe_str (pe_fl T.cl_Column T.n_Column_name (pv 1))) pe_str) (pv 2)) (pv 3)) pe_str))))), ?_⟩)
  · obtain ⟨sl, ca, s, c, rfl, _⟩ := h
    rfl
  obtain ⟨sl, ca, s, c, rfl, hs, hc, gs, gd, k⟩ := h
  obtain ⟨dx, h1⟩ := hc.ex
  have gc := gd.gc
  refine ⟨⟨fun σ H' => ∃ kt, σ = [some (.ref sl), some (.ref ca), some (.str (Tw.T kt)), none] ∧ Same H H' ∧ kt = kindText s c.kind ∧ kt.length ≤ 40, ?_, ?_⟩⟩
  · walk_at "rd"
    obtain ⟨nm, kd, u⟩ := c
    cases kd with
    | number lo hi =>
      refine ifd (fun _ => ?_) (fun z => absurd rfl z)
      have hlen := numT_len (int_len gd.kd.1 gd.kd.2.1) (int_len gd.kd.2.2.1 gd.kd.2.2.2)
      walk_at "rd"
      exact ⟨⟨numT lo hi, rfl, Same.refl _, rfl, hlen⟩⟩
    | ref t n aw =>
      refine ifd (fun z => by cases z) (fun _ => ?_)
      have ht : t < s.length := gd.kd
      obtain ⟨tb, htb⟩ : ∃ tb, s[t]? = some tb := ⟨s[t], by simp [ht]⟩
      have hnm := (gs.tabs tb (List.mem_of_getElem? htb)).nm
      walk_at "rd"
      intro H' s'
      exact ⟨⟨_, rfl, s', (kind_ref htb n aw).symm, refT_len hnm gc.aw⟩⟩
  · rintro σ H' ⟨kt, rfl, s1, ekt, hkt⟩
    have h11 := s1 _ _ h1
    have a1 : (ascii "  ").length = 2 := rfl
    have a2 : (ascii ": ").length = 2 := rfl
    have a3 : (ascii " unique").length = 7 := rfl
    have a4 : (ascii ";\n").length = 2 := rfl
    have hn := gd.nm
    have en : (colOf c).name = c.name := by unfold colOf; cases c.kind <;> rfl
    have eu : (colOf c).uniq = c.unique := by unfold colOf; cases c.kind <;> rfl
    have et : Tw.T (colOf c).name = Tw.T c.name := by rw [en]
    have t1 := app2 (lit "  ") (y := Tw.T (colOf c).name) et
    have n1 := fits2 (lit "  ") (y := Tw.T (colOf c).name) et (by omega)
    have t2 := app2 t1 (lit ": ")
    have n2 := fits2 t1 (lit ": ") (by simp only [List.length_append]; omega)
    have t3 := app2 t2 (y := Tw.T kt) rfl
    have n3 := fits2 t2 (y := Tw.T kt) rfl (by simp only [List.length_append]; omega)
    have fin : ∀ (u : List Nat) (x : Str), x = Tw.T u → u = (if c.unique then ascii " unique" else []) → u.length ≤ 7 → Q (.str (((((Str.ofString "  " ++ Tw.T (colOf c).name) ++ Str.ofString ": ") ++ Tw.T kt) ++ x) ++ Str.ofString ";\n")) H' := fun u x ex eu hu => by
      have t4 := app2 t3 ex
      have t5 := app2 t4 (lit ";\n")
      have e : columnText s c = ((((ascii "  " ++ c.name) ++ ascii ": ") ++ kt) ++ u) ++ ascii ";\n" := by
        unfold columnText
        rw [ekt, eu]
        simp only [List.append_assoc]
      rw [t5, ← e]
      refine k H' s1 ?_
      rw [e]
      simp only [List.length_append]; omega
    walk_at "rd"
    refine ifb (b := (colOf c).uniq) (fun hu => ?_) (fun hu => ?_)
    · have n4 := fits2 t3 (lit " unique") (by simp only [List.length_append]; omega)
      have n5 := fits2 (app2 t3 (lit " unique")) (lit ";\n") (by simp only [List.length_append]; omega)
      walk_at "rd"
      exact fin (ascii " unique") _ (lit " unique") (by rw [← eu, hu]; rfl) (by decide)
    · have n4 := fits2 t3 (lit "") (by simp only [List.length_append]; rw [show (ascii "").length = 0 from rfl]; omega)
      have n5 := fits2 (app2 t3 (lit "")) (lit ";\n") (by simp only [List.length_append]; rw [show (ascii "").length = 0 from rfl]; omega)
      walk_at "rd"
      exact fin [] _ (lit "") (by rw [← eu, hu]; rfl) (by decide)
end Tw
namespace Tw
open PySem PySem.Spec PyProof.Rows L2
open VauowBase (kindText columnText tableText writeSchema intText decimal ascii)

variable {P : Program} {w : World} {K : PySem.W.Frag} {mg : Str → Option Value} {base : Heap} {ad : Ads}
/-! ### the schema's one form -/
def txs (ys : List (List Nat)) : List V := ys.map fun y => V.str (T y)
theorem txs_snoc (ys : List (List Nat)) (y : List Nat) : txs (ys ++ [y]) = txs ys ++ [V.str (T y)] := by unfold txs; rw [List.map_append]; rfl
theorem txs_len (ys : List (List Nat)) : (txs ys).length = ys.length := by unfold txs; rw [List.length_map]
theorem joinL_nil : ∀ l : List (List Nat), TL.joinL [] l = l.flatten
  | [] => rfl
  | [p] => by simp [TL.joinL]
  | p :: q :: r => by
    have ih := joinL_nil (q :: r)
    show p ++ ([] ++ TL.joinL [] (q :: r)) = p ++ (q :: r).flatten
    rw [ih, List.nil_append]
theorem flat_snoc (ys : List (List Nat)) (y : List Nat) : (ys ++ [y]).flatten = ys.flatten ++ y := by simp
theorem ColAt.same {H H' : Hp} {a : Addr} {c : RC} (h : ColAt ad H a c) (s : Same H H') : ColAt ad H' a c := by
  obtain ⟨d, hd⟩ := h.ex
  exact ⟨d, s _ _ hd⟩
theorem SchAt.same {H H' : Hp} {sl : Addr} {s : VauowBase.Schema} (h : SchAt ad H sl s) (k : Same H H') : SchAt ad H' sl s := by
  obtain ⟨tas, h1, h2⟩ := h.ex
  exact ⟨tas, k _ _ h1, Paired.mono (fun ta t ht => by
    obtain ⟨dx, cl, cas, e1, e2, e3⟩ := ht.ex
    exact ⟨dx, cl, cas, k _ _ e1, k _ _ e2, Paired.mono (fun ca c hc => hc.same k) e3⟩) h2⟩
abbrev s_schema_text : Stmt := top 41
theorem sc_schema_text : FnScope ["schema", "lines", "table", "column"] ["schema"] (defScope s_schema_text) := ⟨rfl, rfl, rfl, by decide +kernel, rfl, by decide +kernel, by decide +kernel⟩
def sp_schema_text (ad : Ads) : Sp := fun vs H Q _ => ∃ (sl : Addr) (s : VauowBase.Schema), vs = [.ref sl] ∧ SchAt ad H sl s ∧ GS s ∧ ∀ H', Same H H' → (writeSchema s).length ≤ 2000 → Q (.str (T (writeSchema s))) H'
theorem ok_schema_text {f : Addr} {fd : FuncData} (T : Tp K mg ad) (c_column_line : Fc P w K mg base CX0 2 "column_line" ["schema", "column"] (sp_column_line ad))
    (F : Fun K "schema_text" "schema_text" s_schema_text f fd) : FnOk P w K mg base CX0 3 f fd ["schema"] (sp_schema_text ad) := by
  refine F.ok sc_schema_text (fun vs H Q E h => ?_) (fun cdv A outer s H vs Q E hr h => ⟨_, (pss_cons (ps_set (i := 1) sc_schema_text.nd rfl (.inl rfl) (pe_lst pa_nil)) (pss_cons (ps_forO PassesOwn.never rfl (pi_list (pv 0)) (pg_name (i := 2) sc_schema_text.nd rfl (.inl rfl)) (pss_cons (ps_expr (pe_bm PySem.F.plainAttrs_list PySem.F.slot_list_append PySem.F.type_list_append mt_appL (pv 1) (pa_cons (pe_op op_add_str (pe_op op_add_str pe_str (pe_fl T.cl_Table T.n_Table_name (pv 2))) pe_str) pa_nil))) (pss_cons (ps_forO PassesOwn.never rfl (pi_list (pe_fl T.cl_Table T.n_Table_columns (pv 2))) (pg_name (i := 3) sc_schema_text.nd rfl (.inl rfl)) (pss_one (ps_expr (pe_bm PySem.F.plainAttrs_list PySem.F.slot_list_append PySem.F.type_list_append mt_appL (pv 1) (pa_cons (pe_fc c_column_line (hr.mono (by decide)) (by rfl) (pa_cons (pv 0) (pa_cons (pv 3) pa_nil))) pa_nil))))) (pss_one (ps_expr (pe_bm PySem.F.plainAttrs_list PySem.F.slot_list_append PySem.F.type_list_append mt_appL (pv 1) (pa_cons pe_str pa_nil))))))) (pss_one (ps_ret (pe_join pe_str (pv 1)))))), ?_⟩)
  · obtain ⟨sl, s, rfl, _⟩ := h
    rfl
  obtain ⟨sl, s, rfl, hs, gs, k⟩ := h
  obtain ⟨tas, h2, pr⟩ := hs.ex
  have hlt := Paired.length pr
  have hsl := gs.len
  walk_at "rd"
  intro p np
  obtain ⟨s1, hp⟩ := al2 (o := .lst []) np
  generalize upd H p (.lst []) = H1 at s1 hp ⊢
  have h21 := s1 _ _ h2
  have keep : ∀ {H2 : Hp} {o : HO}, Same H H2 → Same H (upd H2 p o) := fun s b u e => by rw [upd_ne (ne_of_none e np)]; exact s b u e
  have hp : H1 p = some (.lst (txs [])) := hp
  refine ⟨?_⟩
  walk_at "rd"
  refine ⟨⟨_, SqL.of h21⟩, for_it (walk_list (xs := tas.map V.ref)) (fun i σ H' => Nx (∃ x y ys, σ = [some (.ref sl), some (.ref p), x, y] ∧ Same H H' ∧ H' p = some (.lst (txs ys)) ∧ ys.flatten = (s.take i).flatMap (tableText s) ∧ ys.length ≤ 6 * i ∧ ys.flatten.length ≤ 500 * i)) ⟨_, _, [], rfl, s1, hp, rfl, Nat.zero_le _, Nat.zero_le _⟩ (fun i σ H' _ q => ?_) ?_ ?_⟩
  · obtain ⟨x, y, ys, _, s', _⟩ := q.h
    exact SqL.of (s' _ _ h2)
  · rintro i v σ H3 H3' hi ⟨x, y, ys, rfl, s3, hp3, ef, el, ell⟩ ⟨rfl, hv⟩
    rw [List.length_map] at hi
    obtain ⟨ta, hta, rfl⟩ := map_get hv
    obtain ⟨t, ht, dt, cl, cas, hto, hcl, hcs⟩ := paired_get' pr hta
    have gt := gs.tabs t (List.mem_of_getElem? ht)
    have hn := gt.nm
    have h3t := s3 _ _ hto
    have h3c := s3 _ _ hcl
    have hll := txs_len ys
    have a1 : (ascii "table ").length = 6 := rfl
    have a2 : (ascii " {\n").length = 3 := rfl
    have t1 := app2 (lit "table ") (y := Tw.T t.name) rfl
    have n1 := fits2 (lit "table ") (y := Tw.T t.name) rfl (by omega)
    have t2 := app2 t1 (lit " {\n")
    have n2 := fits2 t1 (lit " {\n") (by simp only [List.length_append]; omega)
    walk_at "rd"
    intro H4 e4
    rw [t2, ← txs_snoc] at e4
    have hp4 : H4 p = some (.lst (txs (ys ++ [ascii "table " ++ t.name ++ ascii " {\n"]))) := by rw [e4]; exact upd_same
    have s4 : Same H H4 := by rw [e4]; exact keep s3
    have h4t := s4 _ _ hto
    have h4c := s4 _ _ hcl
    clear e4
    refine ⟨?_⟩
    walk_at "rd"
    have hcl4 := Paired.length hcs
    have gl := gt.len
    refine ⟨⟨_, SqL.of h4c⟩, for_it (walk_list (xs := cas.map V.ref)) (fun j σ H' => Nx (∃ y zs, σ = [some (.ref sl), some (.ref p), some (.ref ta), y] ∧ Same H H' ∧ H' p = some (.lst (txs zs)) ∧ zs.flatten = (s.take i).flatMap (tableText s) ++ (ascii "table " ++ (t.name ++ (ascii " {\n" ++ (t.columns.take j).flatMap (columnText s)))) ∧ zs.length ≤ 6 * i + 1 + j ∧ zs.flatten.length ≤ 500 * i + 30 + 100 * j)) ⟨_, _, rfl, s4, hp4, ?_, ?_, ?_⟩ (fun j σ H' _ q => ?_) ?_ ?_⟩
    · rw [flat_snoc, ef]; simp only [List.take_zero, List.flatMap_nil, List.append_nil, List.append_assoc]
    · rw [List.length_append, List.length_singleton]; omega
    · rw [flat_snoc]; simp only [List.length_append]; omega
    · obtain ⟨y, zs, _, s', _⟩ := q.h
      exact SqL.of (s' _ _ hcl)
    · rintro j v σ H5 H5' hj ⟨y2, zs, rfl, s5, hp5, ef5, el5, ell5⟩ ⟨rfl, hv5⟩
      rw [List.length_map] at hj
      obtain ⟨ca, hca, rfl⟩ := map_get hv5
      obtain ⟨c, hcj, hcc⟩ := paired_get' hcs hca
      have gd := gt.cols c (List.mem_of_getElem? hcj)
      have hs5 := hs.same s5
      have hc5 := hcc.same s5
      have hll5 := txs_len zs
      walk_at "rd"
      intro H6 s6 hl6
      have hp6 := s6 _ _ hp5
      walk_at "rd"
      intro H7 e7
      rw [← txs_snoc] at e7
      have hp7 : H7 p = some (.lst (txs (zs ++ [columnText s c]))) := by rw [e7]; exact upd_same
      have s7 : Same H H7 := by rw [e7]; exact keep (s5.trans s6)
      clear e7
      walk_at "rd"
      refine ⟨⟨_, _, rfl, s7, hp7, ?_, ?_, ?_⟩⟩
      · rw [flat_snoc, ef5, take_more hcj, List.flatMap_append]; simp
      · rw [List.length_append, List.length_singleton]; omega
      · rw [flat_snoc, List.length_append]; omega
    · rintro σ H5 ⟨y2, zs, rfl, s5, hp5, ef5, el5, ell5⟩
      rw [List.length_map, hcl4, List.take_length] at ef5
      rw [List.length_map] at el5 ell5
      have hll5 := txs_len zs
      walk_at "rd"
      intro H6 e6
      rw [lit "}\n", ← txs_snoc] at e6
      have hp6 : H6 p = some (.lst (txs (zs ++ [ascii "}\n"]))) := by rw [e6]; exact upd_same
      have s6 : Same H H6 := by rw [e6]; exact keep s5
      clear e6
      have a3 : (ascii "}\n").length = 2 := rfl
      walk_at "rd"
      refine ⟨⟨_, _, _, rfl, s6, hp6, ?_, ?_, ?_⟩⟩
      · rw [flat_snoc, ef5, take_more ht, List.flatMap_append]
        simp [tableText, List.append_assoc]
      · rw [List.length_append, List.length_singleton]; omega
      · rw [flat_snoc, List.length_append]; omega
  · rintro σ H3 ⟨x, y, ys, rfl, s3, hp3, ef, el, ell⟩
    rw [List.length_map, hlt, List.take_length] at ef
    rw [List.length_map] at el ell
    have ew : ys.flatten = writeSchema s := ef
    have hj : ∀ ys : List (List Nat), ((ys.map Tw.T).map (·.length)).sum = ys.flatten.length := by
      intro ys
      induction ys with
      | nil => rfl
      | cons y ys ih => rw [List.map_cons, List.map_cons, List.sum_cons, ih, List.flatten_cons, List.length_append]; rfl
    refine ⟨⟨_, rfl⟩, _, rfl, _, p, ys.map Tw.T, rfl, rfl, .inl (SqL.of (hp3.trans (by unfold txs; rw [List.map_map]; rfl))), ?_, ?_⟩
    · rw [hj, show (Str.ofString "").length = 0 from rfl, Nat.mul_zero]; omega
    · refine cast (congrArg (fun z => Q (.str z) H3) ?_) (k H3 s3 (by rw [← ew]; omega))
      refine TL.ext_tl ?_
      rw [TL.join_eq, TL.tl_join, List.map_map, show TL.tl ∘ Tw.T = fun l => l from rfl, List.map_id']
      show _ = TL.joinL [] ys
      rw [joinL_nil, ew]; rfl
end Tw
namespace Tw
open PySem PySem.Spec PyProof.Rows L2
open VauowBase (Db rowsFrom tablesFrom dbFrom isValue isId isRising)

variable {P : Program} {w : World} {K : PySem.W.Frag} {mg : Str → Option Value} {base : Heap} {ad : Ads}
/-! ### rows off a list, as the program goes -/
def rowsM (w : Nat) : Nat → Nat → List Int → Option (List VauowBase.Row)
  | 0, _, _ => some []
  | n + 1, last, l => match l with
    | [] => none
    | i :: r => if i ≤ (last : Int) ∨ 99 < i ∨ (r.take w).all isValue = false then none else (rowsM w n i.toNat (r.drop w)).map fun z => ({ id := i.toNat, vals := r.take w } : VauowBase.Row) :: z
def risF : Nat → List VauowBase.Row → Bool
  | _, [] => true
  | k, r :: l => decide (k < r.id) && risF r.id l
theorem rising_eq : ∀ (l : List VauowBase.Row) (r : VauowBase.Row), isRising (r :: l) = risF r.id l
  | [], r => rfl
  | x :: l, r => by
    have ih := rising_eq l x
    unfold risF
    rw [← ih]; rfl
theorem rising_zero : ∀ l : List VauowBase.Row, (∀ r ∈ l, 1 ≤ r.id) → risF 0 l = isRising l
  | [], _ => rfl
  | r :: l, h => by
    rw [rising_eq]
    show (decide (0 < r.id) && risF r.id l) = _
    rw [decide_eq_true (by have := h r (by simp); omega), Bool.true_and]
theorem rows_ids {w : Nat} : ∀ {n : Nat} {l : List Int} {z : List VauowBase.Row × List Int}, rowsFrom w n l = some z → ∀ r ∈ z.1, 1 ≤ r.id
  | 0, l, z, h => by
    obtain rfl := Option.some.inj h
    intro r hr; cases hr
  | n + 1, [], z, h => by cases h
  | n + 1, i :: r, z, h => by
    have h : (if (isId i && decide (w ≤ r.length) && (r.take w).all isValue) = true then (rowsFrom w n (r.drop w)).map fun z => (({ id := i.toNat, vals := r.take w } : VauowBase.Row) :: z.1, z.2) else none) = some z := h
    by_cases c : (isId i && decide (w ≤ r.length) && (r.take w).all isValue) = true
    · rw [if_pos c] at h
      cases e : rowsFrom w n (r.drop w) with
      | none => rw [e] at h; cases h
      | some y =>
        rw [e] at h
        obtain rfl := Option.some.inj h
        intro q hq
        rcases List.mem_cons.mp hq with rfl | hq
        · have : isId i = true := by simp only [Bool.and_eq_true] at c; exact c.1.1
          unfold isId at this
          simp only [Bool.and_eq_true, decide_eq_true_eq] at this
          show 1 ≤ i.toNat
          omega
        · exact rows_ids e q hq
    · rw [if_neg c] at h; cases h
/-- enough numbers: what is left, and what was read -/
theorem rows_go {w : Nat} : ∀ (n last : Nat) (l : List Int), n * (w + 1) ≤ l.length →
    rowsM w n last l = (rowsFrom w n l).bind (fun z => if risF last z.1 then some z.1 else none) ∧ (∀ z, rowsFrom w n l = some z → z.2 = l.drop (n * (w + 1)))
  | 0, last, l, h => ⟨rfl, fun z e => by obtain rfl := Option.some.inj e; simp⟩
  | n + 1, last, [], h => absurd h (by rw [Nat.succ_mul, List.length_nil]; omega)
  | n + 1, last, i :: r, h => by
    rw [Nat.succ_mul, List.length_cons] at h
    have hd : n * (w + 1) ≤ (r.drop w).length := by rw [List.length_drop]; omega
    obtain ⟨ih1, ih2⟩ := rows_go n i.toNat (r.drop w) hd
    have e : rowsFrom w (n + 1) (i :: r) = if (isId i && decide (w ≤ r.length) && (r.take w).all isValue) = true then (rowsFrom w n (r.drop w)).map fun z => (({ id := i.toNat, vals := r.take w } : VauowBase.Row) :: z.1, z.2) else none := rfl
    have em : rowsM w (n + 1) last (i :: r) = if i ≤ (last : Int) ∨ 99 < i ∨ (r.take w).all isValue = false then none else (rowsM w n i.toNat (r.drop w)).map fun z => ({ id := i.toNat, vals := r.take w } : VauowBase.Row) :: z := rfl
    have hw : w ≤ r.length := by omega
    have eid : isId i = true ↔ 1 ≤ i ∧ i ≤ 99 := by
      unfold isId
      simp only [Bool.and_eq_true, decide_eq_true_eq]
      exact Iff.rfl
    rw [e, em, decide_eq_true hw, Bool.and_true]
    constructor
    · by_cases ha : (r.take w).all isValue = true
      · by_cases hi : isId i = true
        · have hi2 := eid.mp hi
          rw [if_pos (show (isId i && (r.take w).all isValue) = true by rw [hi, ha]; rfl)]
          by_cases hl : i ≤ (last : Int)
          · rw [if_pos (.inl hl)]
            cases rowsFrom w n (r.drop w) with
            | none => rfl
            | some z =>
              show none = if (risF last (_ :: z.1)) = true then _ else none
              unfold risF
              rw [decide_eq_false (show ¬ last < i.toNat by omega), Bool.false_and]; rfl
          · rw [if_neg (show ¬ (i ≤ (last : Int) ∨ 99 < i ∨ (r.take w).all isValue = false) by rw [ha]; simp; omega), ih1]
            cases rowsFrom w n (r.drop w) with
            | none => rfl
            | some z =>
              show Option.map _ (if risF i.toNat z.1 = true then some z.1 else none) = if (risF last (_ :: z.1)) = true then _ else none
              have eR : risF last (({ id := i.toNat, vals := r.take w } : VauowBase.Row) :: z.1) = risF i.toNat z.1 := by
                show (decide (last < i.toNat) && risF i.toNat z.1) = _
                rw [decide_eq_true (show last < i.toNat by omega), Bool.true_and]
              rw [eR]
              by_cases hr : risF i.toNat z.1 = true
              · rw [if_pos hr, if_pos hr]; rfl
              · rw [if_neg hr, if_neg hr]; rfl
        · have hi2 : ¬ (1 ≤ i ∧ i ≤ 99) := fun z => hi (eid.mpr z)
          rw [if_neg (show ¬ (isId i && (r.take w).all isValue) = true by rw [Bool.and_eq_true]; exact fun z => hi z.1), if_pos (show i ≤ (last : Int) ∨ 99 < i ∨ _ by omega)]
          rfl
      · have ha : (r.take w).all isValue = false := by simpa using ha
        rw [if_pos (.inr (.inr ha)), if_neg (by rw [ha, Bool.and_false]; decide)]; rfl
    · intro z hz
      by_cases c : (isId i && (r.take w).all isValue) = true
      · rw [if_pos c] at hz
        cases e2 : rowsFrom w n (r.drop w) with
        | none => rw [e2] at hz; cases hz
        | some y =>
          rw [e2] at hz
          obtain rfl := Option.some.inj hz
          show y.2 = _
          rw [ih2 y e2, List.drop_drop, Nat.succ_mul, show n * (w + 1) + (w + 1) = (w + n * (w + 1)) + 1 by omega, List.drop_succ_cons]
      · rw [if_neg c] at hz; cases hz
theorem rows_few {w : Nat} : ∀ (n : Nat) (l : List Int), l.length < n * (w + 1) → rowsFrom w n l = none
  | 0, l, h => absurd h (by rw [Nat.zero_mul]; exact Nat.not_lt_zero _)
  | n + 1, [], h => rfl
  | n + 1, i :: r, h => by
    rw [Nat.succ_mul, List.length_cons] at h
    have e : rowsFrom w (n + 1) (i :: r) = if (isId i && decide (w ≤ r.length) && (r.take w).all isValue) = true then (rowsFrom w n (r.drop w)).map fun z => (({ id := i.toNat, vals := r.take w } : VauowBase.Row) :: z.1, z.2) else none := rfl
    rw [e]
    by_cases c : (isId i && decide (w ≤ r.length) && (r.take w).all isValue) = true
    · rw [if_pos c]
      have hw : w ≤ r.length := by
        simp only [Bool.and_eq_true, decide_eq_true_eq] at c; exact c.1.2
      rw [rows_few (w := w) n (r.drop w) (by rw [List.length_drop]; omega)]; rfl
    · rw [if_neg c]
/-- one table -/
theorem rows_one {w n : Nat} {l : List Int} (h : n * (w + 1) ≤ l.length) (F : List VauowBase.Row × List Int → Option (Db × List Int)) :
    (rowsFrom w n l).bind (fun z => if isRising z.1 then F z else none) = (rowsM w n 0 l).bind fun rs => F (rs, l.drop (n * (w + 1))) := by
  obtain ⟨h1, h2⟩ := rows_go n 0 l h
  rw [h1]
  cases e : rowsFrom w n l with
  | none => rfl
  | some z =>
    have e2 := h2 z e
    have e3 := rising_zero z.1 (rows_ids e)
    show (if isRising z.1 = true then F z else none) = Option.bind (if risF 0 z.1 = true then some z.1 else none) _
    rw [e3]
    by_cases hr : isRising z.1 = true
    · rw [if_pos hr, if_pos hr, ← e2]; rfl
    · rw [if_neg hr, if_neg hr]; rfl
theorem rowsM_take {w : Nat} : ∀ (n last : Nat) (l : List Int), n * (w + 1) ≤ l.length → rowsM w n last (l.take (n * (w + 1))) = rowsM w n last l
  | 0, last, l, h => rfl
  | n + 1, last, [], h => by rw [List.take_nil]
  | n + 1, last, i :: r, h => by
    rw [Nat.succ_mul, List.length_cons] at h
    have ih := rowsM_take (w := w) n i.toNat (r.drop w) (by rw [List.length_drop]; omega)
    rw [show (n + 1) * (w + 1) = (w + n * (w + 1)) + 1 by rw [Nat.succ_mul]; omega, List.take_succ_cons]
    show (if i ≤ (last : Int) ∨ 99 < i ∨ ((r.take (w + n * (w + 1))).take w).all isValue = false then none else (rowsM w n i.toNat ((r.take (w + n * (w + 1))).drop w)).map fun z => ({ id := i.toNat, vals := (r.take (w + n * (w + 1))).take w } : VauowBase.Row) :: z) = if i ≤ (last : Int) ∨ 99 < i ∨ (r.take w).all isValue = false then none else (rowsM w n i.toNat (r.drop w)).map fun z => ({ id := i.toNat, vals := r.take w } : VauowBase.Row) :: z
    rw [List.take_take, show min w (w + n * (w + 1)) = w by omega, List.drop_take, show w + n * (w + 1) - w = n * (w + 1) by omega, ih]
/-! ### the small ones -/
abbrev s_is_row_count : Stmt := top 90
theorem sc_is_row_count : FnScope ["number"] ["number"] (defScope s_is_row_count) := ⟨rfl, rfl, rfl, by decide +kernel, rfl, by decide +kernel, by decide +kernel⟩
def sp_is_row_count : Sp := fun vs H Q _ => ∃ i : Int, vs = [.int i] ∧ Q (.bl (decide (0 ≤ i) && decide (i ≤ 8))) H
theorem ok_is_row_count {f : Addr} {fd : FuncData} (T : Tp K mg ad) (F : Fun K "is_row_count" "is_row_count" s_is_row_count f fd) : FnOk P w K mg base CX0 1 f fd ["number"] sp_is_row_count := by
  refine F.ok sc_is_row_count (fun vs H Q E h => ?_) (fun cdv A outer s H vs Q E hr h => ⟨_, (pss_one (ps_ret (pe_and (pe_cmpR op_ge (pv 0) pe_int (nomark _)) (pe_one (pe_cmpR op_le (pv 0) (pe_cst (by rfl) T.k_MOST_ROWS) (nomark _)))))), ?_⟩)
  · obtain ⟨i, rfl, _⟩ := h
    rfl
  obtain ⟨i, rfl, k⟩ := h
  walk_at "rd"
  refine ifd (fun h => ?_) (fun h => ?_)
  · walk_at "rd"
    rw [decide_eq_true h, Bool.true_and] at k
    exact k
  · rw [decide_eq_false h, Bool.false_and] at k
    exact k
abbrev s_are_values : Stmt := top 92
theorem sc_are_values : FnScope ["row", "value"] ["row"] (defScope s_are_values) := ⟨rfl, rfl, rfl, by decide +kernel, rfl, by decide +kernel, by decide +kernel⟩
def sp_are_values : Sp := fun vs H Q _ => ∃ (a : Addr) (l : List Int), vs = [.ref a] ∧ H a = some (.tup (l.map V.int)) ∧ l.length ≤ 100 ∧ ∀ H', Same H H' → Q (.bl (l.all isValue)) H'
theorem ok_are_values {f : Addr} {fd : FuncData} (T : Tp K mg ad) (F : Fun K "are_values" "are_values" s_are_values f fd) : FnOk P w K mg base CX0 1 f fd ["row"] sp_are_values := by
  refine F.ok sc_are_values (fun vs H Q E h => ?_) (fun cdv A outer s H vs Q E hr h => ⟨_, (pss_one (ps_ret (pe_callB (cr_all rfl) (by rfl) T.b_all (by decide +kernel) (pa_cons (pe_lc (own := [("value", 1)]) (g := gName 1) (tt := tYes) rfl sc_are_values.nd (pi_tup (pv 0)) (blkOk_by (N := ["row", "value"]) (sc := defScope s_are_values) (by decide +kernel)) (fun _ _ _ _ _ => pg_name (i := 1) sc_are_values.nd rfl (Or.inl rfl)) (fun _ _ _ _ _ => pts_nil) (fun _ _ _ _ _ => (pe_cmpR op_le (pe_callB call_abs (by rfl) T.b_abs (by decide +kernel) (pa_cons (pv 1) pa_nil)) (pe_cst (by rfl) T.k_FARTHEST) (nomark _)))) pa_nil)))), ?_⟩)
  · obtain ⟨a, l, rfl, _⟩ := h
    rfl
  obtain ⟨a, l, rfl, ha, hl, k⟩ := h
  walk_at "rd"
  refine ⟨⟨_, SqT.of ha⟩, fun D hD => ?_⟩
  have nD : ∀ {b : Addr} {u : HO}, H b = some u → b ≠ D := fun e => ne_of_none e hD
  refine lc_it walk_tup (fun i H' => Nx (Same H H' ∧ H' D = some (.lst ((l.take i).map fun z => V.bl (isValue z))))) ⟨⟨fun b u e => by rw [upd_ne (nD e)]; exact e, upd_same⟩⟩ (fun i H' _ q => SqT.of (q.h.1 _ _ ha)) ?_ ?_
  · rintro i v H2 H2' hi ⟨s2, h2⟩ ⟨rfl, hv⟩
    obtain ⟨z, hz, rfl⟩ := map_get hv
    have hl2 : ((l.take i).map fun z => V.bl (isValue z)).length ≤ 100 := by rw [List.length_map]; exact Nat.le_trans (List.length_take_le' ..) hl
    walk_at "rd"
    refine ⟨⟨fun b u e => by rw [upd_ne (nD e)]; exact s2 b u e, ?_⟩⟩
    rw [take_more hz, List.map_append]
    have e : decide ((if z < 0 then -z else z) ≤ 1000000) = isValue z := by
      unfold isValue
      show decide _ = (decide (-1000000 ≤ z) && decide (z ≤ 1000000))
      rw [← Bool.decide_and]
      refine decide_eq_decide.mpr ?_
      split <;> omega
    exact upd_same.trans (congrArg (fun b => some (HO.lst ((l.take i).map (fun z => V.bl (isValue z)) ++ [V.bl b]))) e)
  · rintro H2 ⟨s2, h2⟩
    rw [List.length_map, List.take_length] at h2
    refine ⟨D, l.map isValue, rfl, SqL.of (h2.trans (by rw [List.map_map]; rfl)), ?_⟩
    refine cast (congrArg (fun z => Q (.bl z) H2) ?_) (k H2 s2)
    rw [List.all_map]; rfl
end Tw
namespace Tw
open PySem PySem.Spec PyProof.Rows L2
open VauowBase (Db rowsFrom tablesFrom dbFrom isValue isId isRising)

variable {P : Program} {w : World} {K : PySem.W.Frag} {mg : Str → Option Value} {base : Heap} {ad : Ads}
/-! ### a table's rows in the heap -/
def RowR (H : Hp) (kv : Key × V) (r : VauowBase.Row) : Prop := ∃ ra, kv = (.inl (r.id : Int), .ref ra) ∧ H ra = some (.tup (r.vals.map V.int))
structure TabD (H : Hp) (a : Addr) (rs : List VauowBase.Row) : Prop where
  ex : ∃ kvs, H a = some (.dK kvs) ∧ Paired (RowR H) kvs rs
structure DbAt (H : Hp) (tl : Addr) (d : Db) : Prop where
  ex : ∃ das, H tl = some (.lst (das.map V.ref)) ∧ Paired (TabD H) das d
theorem RowR.same {H H' : Hp} (k : Same H H') {kv : Key × V} {r : VauowBase.Row} (h : RowR H kv r) : RowR H' kv r := by
  obtain ⟨ra, e, h⟩ := h
  exact ⟨ra, e, k _ _ h⟩
theorem TabD.same {H H' : Hp} (k : Same H H') {a : Addr} {rs : List VauowBase.Row} (h : TabD H a rs) : TabD H' a rs := by
  obtain ⟨kvs, e, h⟩ := h.ex
  exact ⟨kvs, k _ _ e, Paired.mono (fun kv r => RowR.same k) h⟩
theorem DbAt.same {H H' : Hp} (k : Same H H') {a : Addr} {d : Db} (h : DbAt H a d) : DbAt H' a d := by
  obtain ⟨das, e, h⟩ := h.ex
  exact ⟨das, k _ _ e, Paired.mono (fun da rs => TabD.same k) h⟩
theorem rgC_ok : ∀ w ∈ List.range 5, ∀ n ∈ List.range 9, RgC 0 ((n * (w + 1) : Nat) : Int) ((w + 1 : Nat) : Int) n := by
  unfold RgC; decide +kernel
theorem cut_ints (l : List Int) (i n : Nat) (h : i + n ≤ l.length) : cutV (l.map V.int) (some (i : Int)) (some ((i + n : Nat) : Int)) = ((l.drop i).take n).map V.int := by
  unfold cutV
  rw [HT.sIx_nat, HT.sIx_nat, List.length_map, show min (i + n) l.length - min i l.length = n by omega, show min i l.length = i by omega, List.map_take, List.map_drop]
theorem no_key {H : Hp} {last : Nat} {e : Int} (he : (last : Int) < e) : ∀ {kvs : List (Key × V)} {rs : List VauowBase.Row}, Paired (RowR H) kvs rs → (∀ r ∈ rs, r.id ≤ last) → valV kvs (.inl e) = none
  | _, _, .nil, _ => rfl
  | _, _, .cons (b := r) h t, hl => by
    obtain ⟨ra, rfl, _⟩ := h
    rw [valV_neg (fun z => by
      have z : (r.id : Int) = e := Sum.inl.inj z
      have := hl r (by simp)
      omega)]
    exact no_key he t fun q hq => hl q (by simp [hq])
abbrev s_read_rows : Stmt := top 91
theorem sc_read_rows : FnScope ["numbers", "width", "rows", "last_id", "start", "row_id", "row"] ["numbers", "width"] (defScope s_read_rows) := ⟨rfl, rfl, rfl, by decide +kernel, rfl, by decide +kernel, by decide +kernel⟩
def sp_read_rows : Sp := fun vs H Q _ => ∃ (a : Addr) (w n : Nat) (l : List Int), vs = [.ref a, .int ((w + 1 : Nat) : Int)] ∧ H a = some (.lst (l.map V.int)) ∧ l.length = n * (w + 1) ∧ n ≤ 8 ∧ w ≤ 4 ∧
  (rowsM w n 0 l = none → ∀ H', Same H H' → Q .non H') ∧
  (∀ rs, rowsM w n 0 l = some rs → ∀ da H', Same H H' → H da = none → TabD H' da rs → Q (.ref da) H')
theorem ok_read_rows {f : Addr} {fd : FuncData} (T : Tp K mg ad) (c_are_values : Fc P w K mg base CX0 1 "are_values" ["row"] sp_are_values)
    (F : Fun K "read_rows" "read_rows" s_read_rows f fd) : FnOk P w K mg base CX0 2 f fd ["numbers", "width"] sp_read_rows := by
  refine F.ok sc_read_rows (fun vs H Q E h => ?_) (fun cdv A outer s H vs Q E hr h => ⟨_, (pss_cons (ps_set (i := 2) sc_read_rows.nd rfl (.inl rfl) pe_dnewK) (pss_cons (ps_set (i := 3) sc_read_rows.nd rfl (.inl rfl) pe_int) (pss_cons (ps_forO PassesOwn.never rfl (pi_range3 rfl T.b_range (pa_cons pe_int (pa_cons (pe_callB call_len_seq (by rfl) T.b_len (by decide +kernel) (pa_cons (pv 0) pa_nil)) (pa_cons (pv 1) pa_nil)))) (pg_name (i := 4) sc_read_rows.nd rfl (.inl rfl)) (pss_cons (ps_set (i := 5) sc_read_rows.nd rfl (.inl rfl) (pe_ix ix_list (pv 0) (pv 4) (fun _ _ => rfl))) (pss_cons (ps_set (i := 6) sc_read_rows.nd rfl (.inl rfl) (pe_callTy call_tuple_of (by rfl) T.b_tuple (by decide +kernel) (pa_cons (pe_slice sl_list (pv 0) (po_some (pe_op op_add (pv 4) pe_int)) (po_some (pe_op op_add (pv 4) (pv 1)))) pa_nil))) (pss_cons (ps_if (PW.pt (pw_or (pt_cmpR op_le (pv 5) (pv 3) (nomark _)) (pw_or (pt_cmpR op_gt (pv 5) (pe_cst (by rfl) T.k_GREATEST_ID) (nomark _)) (pw_or1 (pt_not (pt_val (pe_fc c_are_values (hr.mono (by decide)) (by rfl) (pa_cons (pv 6) pa_nil)))))))) (pss_one (ps_ret pe_non)) pss_nil) (pss_cons (ps_dput (hu_of hr) (pv 2) (pv 5) (pv 6) rfl) (pss_one (ps_set (i := 3) sc_read_rows.nd rfl (.inl rfl) (pv 5)))))))) (pss_one (ps_ret (pv 2)))))), ?_⟩)
  · obtain ⟨a, w, n, l, rfl, _⟩ := h
    rfl
  obtain ⟨a, w, n, l, rfl, ha, hl, hn, hw, k1, k2⟩ := h
  have hrg := rgC_ok w (List.mem_range.mpr (by omega)) n (List.mem_range.mpr (by omega))
  walk_at "rd"
  intro d nd
  obtain ⟨s1, hd⟩ := al2 (o := .dK []) nd
  generalize upd H d (.dK []) = H1 at s1 hd ⊢
  have h1a := s1 _ _ ha
  refine ⟨?_⟩
  have hlm : (l.map V.int).length = n * (w + 1) := by rw [List.length_map]; exact hl
  refine ⟨_, rfl, a, l.map V.int, rfl, .inl (SqL.of h1a), _, rfl, 0, _, _, n, rfl, by rw [hlm]; exact hrg, ?_⟩
  refine for_it (walk_rangeC (n := n)) (fun i σ H' => Nx (∃ (last : Nat) (x y z : Option V) (kvs : List (Key × V)) (rs : List VauowBase.Row), σ = [some (.ref a), some (.int ((w + 1 : Nat) : Int)), some (.ref d), some (.int last), x, y, z] ∧ i ≤ n ∧ Same H H' ∧ H' d = some (.dK kvs) ∧ Paired (RowR H') kvs rs ∧ kvs.length ≤ i ∧ (∀ r ∈ rs, r.id ≤ last) ∧ rowsM w n 0 l = (rowsM w (n - i) last (l.drop (i * (w + 1)))).map (rs ++ ·))) ⟨0, none, none, none, [], [], rfl, Nat.zero_le _, s1, hd, .nil, Nat.le_refl _, by simp, ?_⟩ (fun _ _ _ _ _ => trivial) ?_ ?_
  · rw [Nat.zero_mul, List.drop_zero, Nat.sub_zero]
    cases rowsM w n 0 l with
    | none => rfl
    | some r => rfl
  · rintro i v σ H2 H2' hi ⟨last, x, y, z, kvs, rs, rfl, hin, s2, hd2, pr, hk, hlast, eM⟩ ⟨rfl, hv⟩
    have ej : (0 + ((i : Nat) : Int) * ((w + 1 : Nat) : Int)) = ((i * (w + 1) : Nat) : Int) := by rw [Int.zero_add]; exact (Int.natCast_mul i (w + 1)).symm
    have hv : v = V.int (0 + ((i : Nat) : Int) * ((w + 1 : Nat) : Int)) := hv
    rw [ej] at hv
    subst hv
    clear ej
    have hle : i * (w + 1) + (w + 1) ≤ l.length := by
      rw [hl]
      have := Nat.mul_le_mul_right (w + 1) (show i + 1 ≤ n by omega)
      rw [Nat.succ_mul] at this
      exact this
    have eM2 := eM
    clear eM
    generalize hj : i * (w + 1) = j at eM2 hle ⊢
    obtain ⟨e, he⟩ : ∃ e, l[j]? = some e := ⟨l[j]'(by omega), by simp [show j < l.length by omega]⟩
    have he2 : (l.map V.int)[j]? = some (V.int e) := by rw [List.getElem?_map, he]; rfl
    have h2a := s2 _ _ ha
    walk_at "rd"
    intro q nq
    obtain ⟨s3, hq⟩ := al2 (o := .lst (cutV (l.map V.int) (some ((j : Int) + 1)) (some ((j : Int) + ((w + 1 : Nat) : Int))))) nq
    generalize upd H2' q (.lst (cutV (l.map V.int) (some ((j : Int) + 1)) (some ((j : Int) + ((w + 1 : Nat) : Int))))) = H3 at s3 hq ⊢
    have e1 : ((j : Int) + 1) = ((j + 1 : Nat) : Int) := rfl
    have e2 : ((j : Int) + ((w + 1 : Nat) : Int)) = ((j + 1 + w : Nat) : Int) := by omega
    rw [e1, e2, cut_ints l (j + 1) w (by omega)] at hq
    generalize hvs : (l.drop (j + 1)).take w = us at hq
    have hus : us.length ≤ 100 := by rw [← hvs, List.length_take]; omega
    have s3 := s2.trans s3
    have hd3 : H3 d = some (.dK kvs) := by
      have : d ≠ q := ne_of_none hd2 nq
      exact (show Same H2' H3 from ‹_›) _ _ hd2
    have ed : l.drop j = e :: l.drop (j + 1) := by
      obtain ⟨hjl, he3⟩ := List.getElem?_eq_some_iff.mp he
      rw [← he3]; exact List.drop_eq_getElem_cons hjl
    have eS : rowsM w (n - i) last (l.drop j) = if e ≤ (last : Int) ∨ 99 < e ∨ us.all isValue = false then none else (rowsM w (n - (i + 1)) e.toNat (l.drop (j + (w + 1)))).map fun z => ({ id := e.toNat, vals := us } : VauowBase.Row) :: z := by
      rw [ed, show n - i = (n - (i + 1)) + 1 by omega, ← hvs, show l.drop (j + (w + 1)) = (l.drop (j + 1)).drop w by rw [List.drop_drop]; congr 1; omega]
      rfl
    have bad : (e ≤ (last : Int) ∨ 99 < e ∨ us.all isValue = false) → rowsM w n 0 l = none := fun c => by
      rw [eM2, eS, if_pos c]; rfl
    refine ⟨q, _, rfl, .inl ⟨SqL.of hq, fun r nr => ?_⟩⟩
    obtain ⟨s4, hr4⟩ := al2 (o := .tup (us.map V.int)) nr
    generalize upd H3 r (.tup (us.map V.int)) = H4 at s4 hr4 ⊢
    have s04 := s3.trans s4
    have hd4 := s4 _ _ hd3
    have pr4 : Paired (RowR H4) kvs rs := Paired.mono (fun kv r => RowR.same ((show Same H2' H3 from ‹_›).trans s4)) pr
    walk_at "rd"
    refine ifd (fun c1 => ?_) (fun c1 => ?_)
    · walk_at "rd"
      exact k1 (bad (.inl c1)) _ s04
    walk_at "rd"
    refine ifd (fun c2 => ?_) (fun c2 => ?_)
    · walk_at "rd"
      exact k1 (bad (.inr (.inl c2))) _ s04
    walk_at "rd"
    intro H5 s5
    have hd5 := s5 _ _ hd4
    have hr5 := s5 _ _ hr4
    have s05 := s04.trans s5
    walk_at "rd"
    refine ifnb (b := us.all isValue) (fun c3 => ?_) (fun c3 => ?_)
    · walk_at "rd"
      exact k1 (bad (.inr (.inr c3))) _ s05
    have hkl : kvs.length < sizeLine := Nat.lt_of_lt_of_le (show kvs.length < 100000 by omega) (by decide : 100000 ≤ sizeLine)
    have ee : ((e.toNat : Nat) : Int) = e := by omega
    have hno : valV kvs (.inl e) = none := no_key (by omega) pr4 hlast
    walk_at "rd"
    refine And.intro (by exact DPut.k (k := .inl e) hd5 hkl) ?_
    rw [putK_new _ hno]
    have s06 : Same H (upd H5 d (.dK (kvs ++ [((.inl e : Key), V.ref r)]))) := fun b u eb => by rw [upd_ne (ne_of_none eb nd)]; exact s05 b u eb
    have hd6 : upd H5 d (.dK (kvs ++ [((.inl e : Key), V.ref r)])) d = some (.dK (kvs ++ [((.inl e : Key), V.ref r)])) := upd_same
    have old : ∀ {b : Addr} {xs : List V}, H5 b = some (.tup xs) → upd H5 d (.dK (kvs ++ [((.inl e : Key), V.ref r)])) b = some (.tup xs) := fun {b xs} eb => by
      rw [upd_ne (fun z => by rw [z, hd5] at eb; cases eb)]; exact eb
    generalize upd H5 d (.dK (kvs ++ [((.inl e : Key), V.ref r)])) = H6 at s06 hd6 old ⊢
    have pr6 : Paired (RowR H6) kvs rs := Paired.mono (fun kv q ⟨ra, e1, e2⟩ => ⟨ra, e1, old (s5 _ _ e2)⟩) pr4
    walk_at "rd"
    refine ⟨⟨e.toNat, _, _, _, _, rs ++ [⟨e.toNat, us⟩], by rw [ee]; rfl, by omega, s06, hd6, Paired.snoc pr6 ⟨r, by rw [ee], old hr5⟩, by rw [List.length_append, List.length_singleton]; omega, ?_, ?_⟩⟩
    · intro q hq
      rcases List.mem_append.mp hq with hq | hq
      · have := hlast q hq
        omega
      · rw [List.mem_singleton.mp hq]; exact Nat.le_refl _
    · rw [eM2, eS, if_neg (show ¬ (e ≤ (last : Int) ∨ 99 < e ∨ us.all isValue = false) by rw [c3]; simp; omega), show (i + 1) * (w + 1) = j + (w + 1) by rw [Nat.succ_mul, hj]]
      cases rowsM w (n - (i + 1)) e.toNat (l.drop (j + (w + 1))) with
      | none => rfl
      | some z => show some (rs ++ (_ :: z)) = some ((rs ++ [_]) ++ z); rw [List.append_assoc]; rfl
  · rintro σ H2 ⟨last, x, y, z, kvs, rs, rfl, hin, s2, hd2, pr, hk, hlast, eM⟩
    rw [Nat.sub_self] at eM
    walk_at "rd"
    refine k2 rs ?_ d H2 s2 nd ⟨kvs, hd2, pr⟩
    rw [eM]
    show some (rs ++ []) = _
    rw [List.append_nil]
end Tw
namespace Tw
open PySem PySem.Spec PyProof.Rows L2
open VauowBase (Db rowsFrom tablesFrom dbFrom isValue isId isRising)

variable {P : Program} {w : World} {K : PySem.W.Frag} {mg : Str → Option Value} {base : Heap} {ad : Ads}
/-! ### all tables' rows -/
theorem tables_cons (t : VauowBase.Table) (rest : List VauowBase.Table) (k : Nat) (l : List Int) (hk : k ≤ 8) : tablesFrom (t :: rest) ((k : Int) :: l) = if l.length < k * (t.columns.length + 1) then none else (rowsM t.columns.length k 0 (l.take (k * (t.columns.length + 1)))).bind fun rs => (tablesFrom rest (l.drop (k * (t.columns.length + 1)))).map fun z => (rs :: z.1, z.2) := by
  show (if (k : Int) < 0 ∨ (8 : Int) < (k : Int) then none else (rowsFrom t.columns.length (k : Int).toNat l).bind fun z => if isRising z.1 then (tablesFrom rest z.2).map fun w => (z.1 :: w.1, w.2) else none) = _
  rw [if_neg (by omega), show (k : Int).toNat = k from rfl]
  by_cases h : l.length < k * (t.columns.length + 1)
  · rw [if_pos h, rows_few _ _ h]; rfl
  · rw [if_neg h, rowsM_take _ _ _ (by omega)]
    exact rows_one (w := t.columns.length) (n := k) (l := l) (by omega) fun z => (tablesFrom rest z.2).map fun w => (z.1 :: w.1, w.2)
theorem tables_bad (t : VauowBase.Table) (rest : List VauowBase.Table) (n : Int) (l : List Int) (h : n < 0 ∨ 8 < n) : tablesFrom (t :: rest) (n :: l) = none := if_pos h
abbrev s_read_tables : Stmt := top 89
theorem sc_read_tables : FnScope ["schema", "numbers", "tables", "place", "table", "width", "start", "rows"] ["schema", "numbers"] (defScope s_read_tables) := ⟨rfl, rfl, rfl, by decide +kernel, rfl, by decide +kernel, by decide +kernel⟩
def sp_read_tables (ad : Ads) : Sp := fun vs H Q _ => ∃ (sl na : Addr) (s : VauowBase.Schema) (l : List Int), vs = [.ref sl, .ref na] ∧ SchAt ad H sl s ∧ GS s ∧ H na = some (.lst (l.map V.int)) ∧
  (dbFrom s l = none → ∀ H', Same H H' → Q .non H') ∧
  (∀ d, dbFrom s l = some d → ∀ tl H', Same H H' → H tl = none → DbAt H' tl d → Q (.ref tl) H')
theorem ok_read_tables {f : Addr} {fd : FuncData} (T : Tp K mg ad) (c_is_row_count : Fc P w K mg base CX0 1 "is_row_count" ["number"] sp_is_row_count)
    (c_read_rows : Fc P w K mg base CX0 2 "read_rows" ["numbers", "width"] sp_read_rows)
    (F : Fun K "read_tables" "read_tables" s_read_tables f fd) : FnOk P w K mg base CX0 3 f fd ["schema", "numbers"] (sp_read_tables ad) := by
  refine F.ok sc_read_tables (fun vs H Q E h => ?_) (fun cdv A outer s H vs Q E hr h => ⟨_, (pss_cons (ps_set (i := 2) sc_read_tables.nd rfl (.inl rfl) (pe_lst pa_nil)) (pss_cons (ps_set (i := 3) sc_read_tables.nd rfl (.inl rfl) pe_int) (pss_cons (ps_forO PassesOwn.never rfl (pi_list (pv 0)) (pg_name (i := 4) sc_read_tables.nd rfl (.inl rfl)) (pss_cons (ps_set (i := 5) sc_read_tables.nd rfl (.inl rfl) (pe_op op_add pe_int (pe_callB call_len_seq (by rfl) T.b_len (by decide +kernel) (pa_cons (pe_fl T.cl_Table T.n_Table_columns (pv 4)) pa_nil)))) (pss_cons (ps_if (PW.pt (pw_or (pt_cmpR op_eq (pv 3) (pe_callB call_len_seq (by rfl) T.b_len (by decide +kernel) (pa_cons (pv 1) pa_nil)) (nomark _)) (pw_or1 (pt_not (pt_val (pe_fc c_is_row_count (hr.mono (by decide)) (by rfl) (pa_cons (pe_ix ix_list (pv 1) (pv 3) (fun _ _ => rfl)) pa_nil))))))) (pss_one (ps_ret pe_non)) pss_nil) (pss_cons (ps_set (i := 6) sc_read_tables.nd rfl (.inl rfl) (pe_op op_add (pv 3) pe_int)) (pss_cons (ps_set (i := 3) sc_read_tables.nd rfl (.inl rfl) (pe_op op_add (pv 6) (pe_op op_mul (pe_ix ix_list (pv 1) (pv 3) (fun _ _ => rfl)) (pv 5)))) (pss_cons (ps_if (pt_cmpR op_gt (pv 3) (pe_callB call_len_seq (by rfl) T.b_len (by decide +kernel) (pa_cons (pv 1) pa_nil)) (nomark _)) (pss_one (ps_ret pe_non)) pss_nil) (pss_cons (ps_set (i := 7) sc_read_tables.nd rfl (.inl rfl) (pe_fc c_read_rows (hr.mono (by decide)) (by rfl) (pa_cons (pe_slice sl_list (pv 1) (po_some (pv 6)) (po_some (pv 3))) (pa_cons (pv 5) pa_nil)))) (pss_cons (ps_if (pt_cmpR op_isN (pv 7) pe_non (nomark _)) (pss_one (ps_ret pe_non)) pss_nil) (pss_one (ps_expr (pe_bm PySem.F.plainAttrs_list PySem.F.slot_list_append PySem.F.type_list_append mt_appL (pv 2) (pa_cons (pv 7) pa_nil)))))))))))) (pss_one (ps_ret (pe_ifExp (pt_cmpR op_eq (pv 3) (pe_callB call_len_seq (by rfl) T.b_len (by decide +kernel) (pa_cons (pv 1) pa_nil)) (nomark _)) (pv 2) pe_non)))))), ?_⟩)
  · obtain ⟨sl, na, s, l, rfl, _⟩ := h
    rfl
  obtain ⟨sl, na, s, l, rfl, hs, gs, ha, k1, k2⟩ := h
  obtain ⟨tas, h2, pr⟩ := hs.ex
  have hlt := Paired.length pr
  have hsl := gs.len
  walk_at "rd"
  intro tl ntl
  obtain ⟨s1, htl⟩ := al2 (o := .lst []) ntl
  generalize upd H tl (.lst []) = H1 at s1 htl ⊢
  have h21 := s1 _ _ h2
  have keep : ∀ {H2 : Hp} {o : HO}, Same H H2 → Same H (upd H2 tl o) := fun s b u e => by rw [upd_ne (ne_of_none e ntl)]; exact s b u e
  walk_at "rd"
  refine ⟨?_⟩
  walk_at "rd"
  refine ⟨⟨_, SqL.of h21⟩, for_it (walk_list (xs := tas.map V.ref)) (fun i σ H' => Nx (∃ (place : Nat) (x4 x5 x6 x7 : Option V) (das : List Addr) (d : Db), σ = [some (.ref sl), some (.ref na), some (.ref tl), some (.int place), x4, x5, x6, x7] ∧ place ≤ l.length ∧ Same H H' ∧ H' tl = some (.lst (das.map V.ref)) ∧ Paired (TabD H') das d ∧ das.length ≤ i ∧ tablesFrom s l = (tablesFrom (s.drop i) (l.drop place)).map fun z => (d ++ z.1, z.2))) ⟨0, _, _, _, _, [], [], rfl, Nat.zero_le _, s1, htl, .nil, Nat.le_refl _, ?_⟩ (fun i σ H' _ q => ?_) ?_ ?_⟩
  · rw [List.drop_zero, List.drop_zero]
    cases tablesFrom s l with
    | none => rfl
    | some z => rfl
  · obtain ⟨_, _, _, _, _, _, _, _, _, s', _⟩ := q.h
    exact SqL.of (s' _ _ h2)
  · rintro i v σ H2 H2' hi ⟨place, x4, x5, x6, x7, das, d, rfl, hpl, s2, htl2, prd, hdl, eT⟩ ⟨rfl, hv⟩
    rw [List.length_map] at hi
    obtain ⟨ta, hta, rfl⟩ := map_get hv
    obtain ⟨t, ht, dt, cl, cas, hto, hcl, hcs⟩ := paired_get' pr hta
    have gt := gs.tabs t (List.mem_of_getElem? ht)
    have h2t := s2 _ _ hto
    have h2c := s2 _ _ hcl
    have h2a := s2 _ _ ha
    have hcl4 := Paired.length hcs
    have eds : s.drop i = t :: s.drop (i + 1) := by
      obtain ⟨hjl, he3⟩ := List.getElem?_eq_some_iff.mp ht
      rw [← he3]; exact List.drop_eq_getElem_cons hjl
    rw [eds] at eT
    have ew : (1 + ((cas.map V.ref).length : Int)) = ((t.columns.length + 1 : Nat) : Int) := by rw [List.length_map, hcl4]; omega
    have gl := gt.len
    have hll : (l.map V.int).length = l.length := List.length_map ..
    have non : tablesFrom s l = none → dbFrom s l = none := fun e => by unfold dbFrom; rw [e]; rfl
    walk_at "rd"
    rw [show (fun i j : Int => V.int (i + j)) 1 ((cas.map V.ref).length : Int) = V.int ((t.columns.length + 1 : Nat) : Int) from congrArg V.int ew]
    generalize hw : t.columns.length = w' at *
    refine ifd (fun c1 => ?_) (fun c1 => ?_)
    · have c1 : place = l.length := by
        injection c1 with c1
        rw [hll] at c1; omega
      walk_at "rd"
      refine k1 (non ?_) _ s2
      rw [eT, c1, List.drop_length]; rfl
    have c1 : place < l.length := by
      refine Nat.lt_of_le_of_ne hpl fun z => c1 ?_
      rw [hll, z]
    obtain ⟨n, hn⟩ : ∃ n, l[place]? = some n := ⟨l[place]'c1, by simp [c1]⟩
    have hn2 : (l.map V.int)[place]? = some (V.int n) := by rw [List.getElem?_map, hn]; rfl
    have ed : l.drop place = n :: l.drop (place + 1) := by
      obtain ⟨hjl, he3⟩ := List.getElem?_eq_some_iff.mp hn
      rw [← he3]; exact List.drop_eq_getElem_cons hjl
    rw [ed] at eT
    walk_at "rd"
    refine ifnb (b := decide (0 ≤ n) && decide (n ≤ 8)) (fun c2 => ?_) (fun c2 => ?_)
    · walk_at "rd"
      refine k1 (non ?_) _ s2
      rw [eT, tables_bad _ _ _ _ (by
        have c2 : ¬ ((decide (0 ≤ n) && decide (n ≤ 8)) = true) := by rw [c2]; decide
        simp only [Bool.and_eq_true, decide_eq_true_eq] at c2
        omega)]
      rfl
    have c2 : 0 ≤ n ∧ n ≤ 8 := by simpa only [Bool.and_eq_true, decide_eq_true_eq] using c2
    obtain ⟨k, rfl⟩ := Int.eq_ofNat_of_zero_le c2.1
    have hk : k ≤ 8 := by omega
    rw [tables_cons _ _ _ _ hk, hw, List.length_drop] at eT
    have hcm : CMul (k : Int) ((w' + 1 : Nat) : Int) := .inl ⟨Int.lt_of_lt_of_le (by decide) c2.1, Int.lt_of_le_of_lt c2.2 (by decide)⟩
    have e3 : ((place : Int) + 1 + (k : Int) * ((w' + 1 : Nat) : Int)) = ((place + 1 + k * (w' + 1) : Nat) : Int) := by
      have em := Int.natCast_mul k (w' + 1)
      rw [Int.natCast_add (place + 1), em]; rfl
    walk_at "rd"
    rw [show (fun i j : Int => V.int (i + j)) (place : Int) 1 = V.int ((place + 1 : Nat) : Int) from rfl, show (fun i j : Int => V.int (i + j)) ((place : Int) + 1) ((k : Int) * ((w' + 1 : Nat) : Int)) = V.int ((place + 1 + k * (w' + 1) : Nat) : Int) from congrArg V.int e3]
    refine ifd (fun c3 => ?_) (fun c3 => ?_)
    · rw [e3, hll] at c3
      walk_at "rd"
      refine k1 (non ?_) _ s2
      rw [eT, if_pos (by omega)]; rfl
    rw [e3, hll] at c3
    have c3 : place + 1 + k * (w' + 1) ≤ l.length := by omega
    rw [if_neg (by omega)] at eT
    walk_at "rd"
    intro q nq
    obtain ⟨s3, hq⟩ := al2 (o := .lst (cutV (l.map V.int) (some ((place + 1 : Nat) : Int)) (some ((place + 1 + k * (w' + 1) : Nat) : Int)))) nq
    generalize upd H2' q (.lst (cutV (l.map V.int) (some ((place + 1 : Nat) : Int)) (some ((place + 1 + k * (w' + 1) : Nat) : Int)))) = H3 at s3 hq ⊢
    rw [cut_ints _ _ _ c3] at hq
    have hlen : ((l.drop (place + 1)).take (k * (w' + 1))).length = k * (w' + 1) := by rw [List.length_take, List.length_drop]; omega
    have s03 := s2.trans s3
    have htl3 := s3 _ _ htl2
    walk_at "rd"
    refine ⟨fun eM H4 s4 => ?_, fun rs eM da H4 s4 nda hda => ?_⟩
    · walk_at "rd"
      refine ifd (fun _ => ?_) (fun z => absurd rfl z)
      walk_at "rd"
      refine k1 (non ?_) _ (s03.trans s4)
      rw [eT, eM]; rfl
    · have htl4 := s4 _ _ htl3
      have hlen4 : (das.map V.ref).length ≤ 4 := by rw [List.length_map]; omega
      walk_at "rd"
      intro H5 e5
      have hne : da ≠ tl := fun z => by rw [z, htl3] at nda; cases nda
      have htl5 : H5 tl = some (.lst ((das ++ [da]).map V.ref)) := by rw [e5, upd_same, List.map_append]; rfl
      have s05 : Same H H5 := by rw [e5]; exact keep (s03.trans s4)
      have tab5 : ∀ {b : Addr} {r : List VauowBase.Row}, TabD H4 b r → TabD H5 b r := fun {b r} hb => by
        obtain ⟨kvs, h1, h2⟩ := hb.ex
        have nn : ∀ {c : Addr} {u : HO}, H4 c = some u → (∀ vs, u ≠ .lst vs) → H5 c = some u := fun {c u} ec hu => by
          rw [e5, upd_ne (fun z => by rw [z, htl4] at ec; exact hu _ (Option.some.inj ec).symm)]; exact ec
        exact ⟨kvs, nn h1 (by intro vs z; cases z), Paired.mono (fun kv r ⟨ra, e1, e2⟩ => ⟨ra, e1, nn e2 (by intro vs z; cases z)⟩) h2⟩
      clear e5
      walk_at "rd"
      refine ⟨⟨_, _, _, _, _, _, d ++ [rs], rfl, c3, s05, htl5, Paired.snoc (Paired.mono (fun b r hb => tab5 (hb.same (s3.trans s4))) prd) (tab5 hda), by rw [List.length_append, List.length_singleton]; omega, ?_⟩⟩
      rw [eT, eM, List.drop_drop]
      cases tablesFrom (s.drop (i + 1)) (l.drop (place + 1 + k * (w' + 1))) with
      | none => rfl
      | some z => show some (d ++ (rs :: z.1), z.2) = some ((d ++ [rs]) ++ z.1, z.2); rw [List.append_assoc]; rfl
  · rintro σ H2 ⟨place, x4, x5, x6, x7, das, d, rfl, hpl, s2, htl2, prd, hdl, eT⟩
    rw [List.length_map, hlt, List.drop_length] at eT
    have eT : tablesFrom s l = some (d, l.drop place) := by
      rw [eT]
      show some (d ++ [], l.drop place) = _
      rw [List.append_nil]
    have h2a := s2 _ _ ha
    have eD : dbFrom s l = if (l.drop place).isEmpty then some d else none := by
      unfold dbFrom
      rw [eT]; rfl
    have hll : (l.map V.int).length = l.length := List.length_map ..
    walk_at "rd"
    refine ifd (fun c1 => ?_) (fun c1 => ?_)
    · have c1 : place = l.length := by
        injection c1 with c1
        rw [hll] at c1; omega
      walk_at "rd"
      rw [c1, List.drop_length] at eD
      exact k2 d eD tl H2 s2 ntl ⟨das, htl2, prd⟩
    · have c1 : place ≠ l.length := fun z => c1 (by rw [hll, z])
      walk_at "rd"
      refine k1 ?_ H2 s2
      rw [eD, if_neg]
      rw [List.isEmpty_iff, List.drop_eq_nil_iff]; omega
end Tw
namespace Tw
open PySem PySem.Spec PyProof.Rows L2
open VauowBase (Db brokenKind isRef isTwice brokenFrom brokenRow brokenIn findRow rowAt tableAt)

variable {P : Program} {w : World} {K : PySem.W.Frag} {mg : Str → Option Value} {base : Heap} {ad : Ads}
/-! ### a row by its id -/
theorem key_none {H : Hp} {v : Int} : ∀ {kvs : List (Key × V)} {rs : List VauowBase.Row}, Paired (RowR H) kvs rs → (v < 0 ∨ findRow rs v.toNat = none) → valV kvs (.inl v) = none
  | _, _, .nil, _ => rfl
  | _, _, .cons (b := r) (l₂ := m) h t, hl => by
    obtain ⟨ra, rfl, _⟩ := h
    have hne : ¬ (r.id : Int) = v := fun z => by
      rcases hl with hl | hl
      · omega
      · have e : r.id = v.toNat := by omega
        have : findRow (r :: m) v.toNat = some r := by
          unfold findRow
          rw [List.find?_cons, e, beq_self_eq_true]
        rw [this] at hl; cases hl
    rw [valV_neg (fun z => hne (Sum.inl.inj z))]
    refine key_none t ?_
    rcases hl with hl | hl
    · exact .inl hl
    · by_cases hv : v < 0
      · exact .inl hv
      refine .inr ?_
      have : (r.id == v.toNat) = false := beq_eq_false_iff_ne.mpr fun z => hne (by omega)
      unfold findRow at hl ⊢
      rw [List.find?_cons, this] at hl
      exact hl
theorem key_some {H : Hp} {i : Nat} {r : VauowBase.Row} : ∀ {kvs : List (Key × V)} {rs : List VauowBase.Row}, Paired (RowR H) kvs rs → findRow rs i = some r → ∃ ra, valV kvs (.inl (i : Int)) = some (.ref ra) ∧ H ra = some (.tup (r.vals.map V.int))
  | _, _, .nil, h => by cases h
  | _, _, .cons (b := q) h t, hl => by
    obtain ⟨ra, rfl, hra⟩ := h
    unfold findRow at hl
    rw [List.find?_cons] at hl
    by_cases e : q.id = i
    · rw [e, beq_self_eq_true] at hl
      obtain rfl := Option.some.inj hl
      exact ⟨ra, valV_pos (by rw [e]), hra⟩
    · rw [beq_eq_false_iff_ne.mpr e] at hl
      rw [valV_neg (fun z => e (by have z : (q.id : Int) = (i : Int) := Sum.inl.inj z; omega))]
      exact key_some t hl
theorem key_is {H : Hp} {v : Int} {kvs : List (Key × V)} {rs : List VauowBase.Row} (h : Paired (RowR H) kvs rs) (hv : 0 ≤ v) : (valV kvs (.inl v)).isSome = (findRow rs v.toNat).isSome := by
  cases e : findRow rs v.toNat with
  | none => rw [key_none h (.inr e)]; rfl
  | some r =>
    obtain ⟨ra, e2, _⟩ := key_some h e
    rw [show ((v.toNat : Nat) : Int) = v by omega] at e2
    rw [e2]; rfl
/-! ### value_broken -/
def vbM (d : Db) (c : VauowBase.Column) (v : Int) (os : List Int) : Int := match brokenKind d c.kind v with
  | some n => n
  | none => if c.unique && (!(isRef c.kind && v == 0) && os.contains v) then 4 else 0
theorem inV_ints (v : Int) : ∀ l : List Int, inV (.int v) (l.map V.int) = l.contains v
  | [] => rfl
  | y :: r => by
    have ih := inV_ints v r
    show (eqV (.int y) (.int v) || inV (.int v) (r.map V.int)) = _
    rw [ih, List.contains_cons]
    congr 1
    show decide (y = v) = (v == y)
    by_cases e : y = v
    · subst e; simp
    · rw [decide_eq_false e]; exact (beq_eq_false_iff_ne.mpr (Ne.symm e)).symm
abbrev s_value_broken : Stmt := top 103
theorem sc_value_broken : FnScope ["column", "value", "others", "tables"] ["column", "value", "others", "tables"] (defScope s_value_broken) := ⟨rfl, rfl, rfl, by decide +kernel, rfl, by decide +kernel, by decide +kernel⟩
def sp_value_broken (ad : Ads) : Sp := fun vs H Q _ => ∃ (ca ol tl : Addr) (v : Int) (c : VauowBase.Column) (os : List Int) (d : Db), vs = [.ref ca, .int v, .ref ol, .ref tl] ∧ ColAt ad H ca (colOf c) ∧ H ol = some (.lst (os.map V.int)) ∧ DbAt H tl d ∧ GK d.length c.kind ∧ Q (.int (vbM d c v os)) H
theorem ok_value_broken {f : Addr} {fd : FuncData} (T : Tp K mg ad) (F : Fun K "value_broken" "value_broken" s_value_broken f fd) : FnOk P w K mg base CX0 1 f fd ["column", "value", "others", "tables"] (sp_value_broken ad) := by
  refine F.ok sc_value_broken (fun vs H Q E h => ?_) (fun cdv A outer s H vs Q E hr h => ⟨_, (pss_cons (ps_if (pt_cmpR op_isN (pe_fl T.cl_Column T.n_Column_target (pv 0)) pe_non (nomark _)) (pss_one (ps_if (PW.pt (pw_or (pt_cmpR op_lt (pv 1) (pe_fl T.cl_Column T.n_Column_low (pv 0)) (nomark _)) (pw_or1 (pt_cmpR op_gt (pv 1) (pe_fl T.cl_Column T.n_Column_high (pv 0)) (nomark _))))) (pss_one (ps_ret (pe_cst (by rfl) T.k_OUT_OF_RANGE))) pss_nil)) (pss_one (ps_if (pt_cmpR op_eq (pv 1) pe_int (nomark _)) (pss_one (ps_ret (pe_ifExp (pt_val (pe_fl T.cl_Column T.n_Column_allows_none (pv 0))) (pe_cst (by rfl) T.k_NOTHING_BROKEN) (pe_cst (by rfl) T.k_NO_SUCH_ROW)))) (pss_one (ps_if (pt_cmp (pc_dnotin (hu_of hr) (pv 1) (pe_ix ix_list (pv 3) (pe_fl T.cl_Column T.n_Column_target (pv 0)) (fun _ _ => rfl)))) (pss_one (ps_ret (pe_cst (by rfl) T.k_NO_SUCH_ROW))) pss_nil))))) (pss_cons (ps_if (PW.pt (pw_and (pt_val (pe_fl T.cl_Column T.n_Column_unique (pv 0))) (pw_and1 (pt_cmpR op_in_seq (pv 1) (pv 2) (by rfl))))) (pss_one (ps_ret (pe_cst (by rfl) T.k_NOT_UNIQUE))) pss_nil) (pss_one (ps_ret (pe_cst (by rfl) T.k_NOTHING_BROKEN))))), ?_⟩)
  · obtain ⟨ca, ol, tl, v, c, os, d, rfl, _⟩ := h
    rfl
  obtain ⟨ca, ol, tl, v, c, os, d, rfl, hc, ho, hd, gk, k⟩ := h
  obtain ⟨dx, h1⟩ := hc.ex
  obtain ⟨das, h2, pr⟩ := hd.ex
  obtain ⟨nm, kd, u⟩ := c
  have hf : (os.map V.int).all flatV = true := by simp [flatV]
  cases kd with
  | number lo hi =>
    have e0 : vbM d ⟨nm, .number lo hi, u⟩ v os = if v < lo ∨ hi < v then 2 else if (u && (true && os.contains v)) = true then 4 else 0 := by
      unfold vbM
      show (match (if v < lo ∨ hi < v then some 2 else none : Option Nat) with | some n => (n : Int) | none => _) = _
      by_cases h : v < lo ∨ hi < v
      · rw [if_pos h, if_pos h]; rfl
      · rw [if_neg h, if_neg h]; rfl
    rw [e0] at k
    walk_at "rd"
    refine ifd (fun c1 => ?_) (fun c1 => ?_)
    · walk_at "rd"
      rw [if_pos (.inl c1)] at k
      exact k
    walk_at "rd"
    refine ifd (fun c2 => ?_) (fun c2 => ?_)
    · walk_at "rd"
      rw [if_pos (.inr c2)] at k
      exact k
    rw [if_neg (show ¬ (v < lo ∨ hi < v) from fun z => z.elim c1 c2)] at k
    walk_at "rd"
    refine ifb (b := u) (fun hu => ?_) (fun hu => ?_)
    · walk_at "rd"
      refine ifb (b := inV (.int v) (os.map V.int)) (fun hv => ?_) (fun hv => ?_)
      · rw [inV_ints] at hv
        rw [hu, hv] at k
        walk_at "rd"
        exact k
      · rw [inV_ints] at hv
        rw [hu, hv] at k
        walk_at "rd"
        exact k
    · refine ifb (fun z => by cases z) (fun _ => ?_)
      rw [hu] at k
      walk_at "rd"
      exact k
  | ref t n a =>
    have hlt := Paired.length pr
    have ht : t < d.length := gk
    obtain ⟨rs, hrs⟩ : ∃ rs, d[t]? = some rs := ⟨d[t], by simp [ht]⟩
    obtain ⟨da, hda, kvs, h3, prk⟩ := paired_get pr hrs
    have hv : (das.map V.ref)[t]? = some (V.ref da) := by rw [List.getElem?_map, hda]; rfl
    have eT : tableAt d t = rs := by unfold tableAt; rw [hrs]; rfl
    have e1 : (colF (colOf ⟨nm, .ref t n a, u⟩)).lookup ("target" : Str) = some (V.int t) := rfl
    walk_at "rd"
    refine ifd (fun c1 => ?_) (fun c1 => ?_)
    · have c1 : v = 0 := by injection c1
      have e0 : vbM d ⟨nm, .ref t n a, u⟩ v os = if n = true then 0 else 3 := by
        unfold vbM
        show (match (if v = 0 then (if n = true then none else some 3) else _ : Option Nat) with | some n => (n : Int) | none => _) = _
        rw [if_pos c1, c1]
        cases n <;> cases u <;> rfl
      rw [e0] at k
      walk_at "rd"
      refine ifb (b := n) (fun hn => ?_) (fun hn => ?_)
      · rw [hn] at k
        walk_at "rd"
        exact k
      · rw [hn] at k
        walk_at "rd"
        exact k
    have c1 : v ≠ 0 := fun z => c1 (by rw [z])
    have e0 : vbM d ⟨nm, .ref t n a, u⟩ v os = if (valV kvs (.inl v)).isSome = true then (if (u && (true && os.contains v)) = true then 4 else 0) else 3 := by
      unfold vbM
      show (match (if v = 0 then _ else if v < 0 then some 3 else if (rowAt d t v.toNat).isSome then none else some 3 : Option Nat) with | some n => (n : Int) | none => if (u && (!(true && v == 0) && os.contains v)) = true then 4 else 0) = _
      rw [if_neg c1, show (!(true && v == 0)) = true by rw [beq_eq_false_iff_ne.mpr c1]; rfl]
      by_cases hneg : v < 0
      · rw [if_pos hneg, key_none prk (.inl hneg)]; rfl
      · rw [if_neg hneg, key_is prk (by omega)]
        unfold rowAt
        rw [eT]
        cases (findRow rs v.toNat).isSome <;> rfl
    rw [e0] at k
    have hg : DGet H da (.int v) (valV kvs (.inl v)) := DGet.k (k := .inl v) h3
    walk_at "rd"
    refine ifnb (b := (valV kvs (.inl v)).isSome) (fun c2 => ?_) (fun c2 => ?_)
    · walk_at "rd"
      rw [c2, if_neg (by decide)] at k
      exact k
    rw [c2, if_pos rfl] at k
    walk_at "rd"
    refine ifb (b := u) (fun hu => ?_) (fun hu => ?_)
    · walk_at "rd"
      refine ifb (b := inV (.int v) (os.map V.int)) (fun hv => ?_) (fun hv => ?_)
      · rw [inV_ints] at hv
        rw [hu, hv] at k
        walk_at "rd"
        exact k
      · rw [inV_ints] at hv
        rw [hu, hv] at k
        walk_at "rd"
        exact k
    · refine ifb (fun z => by cases z) (fun _ => ?_)
      rw [hu] at k
      walk_at "rd"
      exact k
end Tw
namespace Tw
open PySem PySem.Spec PyProof.Rows L2
open VauowBase (Db brokenKind isRef isTwice brokenFrom brokenRow brokenIn findRow rowAt tableAt isValue)

variable {P : Program} {w : World} {K : PySem.W.Frag} {mg : Str → Option Value} {base : Heap} {ad : Ads}
theorem ix_tupN {X : Cx} {K : PySem.W.Frag} (hK : X.K = K := by rfl) : IxR X (rIxT K) := by
  subst hK
  exact ix_tup
theorem ix_listN {X : Cx} {K : PySem.W.Frag} (hK : X.K = K := by rfl) : IxR X (rIxL K) := by
  subst hK
  exact ix_list
/-! ### tables that are of a schema's form -/
structure RO (n : Nat) (r : VauowBase.Row) : Prop where
  lo : 1 ≤ r.id
  hi : r.id ≤ 99
  len : r.vals.length = n
  vals : r.vals.all isValue = true
structure TO (n : Nat) (rs : List VauowBase.Row) : Prop where
  len : rs.length ≤ 8
  ris : risF 0 rs = true
  rows : ∀ r ∈ rs, RO n r
structure DO (s : VauowBase.Schema) (d : Db) : Prop where
  len : d.length = s.length
  tabs : ∀ (t : Nat) (rs : List VauowBase.Row) (tb : VauowBase.Table), d[t]? = some rs → s[t]? = some tb → TO tb.columns.length rs
/-! ### row_broken -/
def oth (rs : List VauowBase.Row) (id i : Nat) : List Int := (rs.filter fun q => q.id != id).map fun q => q.vals.getD i 0
theorem oth_any {n : Nat} {rs : List VauowBase.Row} {id i : Nat} {v : Int} (hi : i < n) (h : ∀ r ∈ rs, r.vals.length = n) : (oth rs id i).contains v = rs.any fun q => q.id != id && q.vals[i]? == some v := by
  induction rs with
  | nil => rfl
  | cons q rs ih =>
    have ih := ih fun r hr => h r (by simp [hr])
    have hq := h q (by simp)
    rw [List.any_cons, ← ih]
    unfold oth
    rw [List.filter_cons]
    by_cases e : (q.id != id) = true
    · rw [if_pos e, List.map_cons, List.contains_cons, e, Bool.true_and]
      congr 1
      rw [List.getD_eq_getElem?_getD]
      rw [List.getElem?_eq_getElem (by omega)]
      show (v == q.vals[i]) = (some q.vals[i] == some v)
      by_cases e2 : v = q.vals[i]
      · subst e2; simp
      · rw [beq_eq_false_iff_ne.mpr e2]
        exact (beq_eq_false_iff_ne.mpr fun z => e2 (Option.some.inj z).symm).symm
    · rw [if_neg e]
      have e : (q.id != id) = false := by simpa using e
      rw [e, Bool.false_and, Bool.false_or]
theorem vb_some {d : Db} {k : VauowBase.Kind} {v : Int} {n : Nat} (h : brokenKind d k v = some n) : n ≠ 0 := by
  cases k with
  | number lo hi =>
    have h : (if v < lo ∨ hi < v then some 2 else none) = some n := h
    split at h
    · obtain rfl := Option.some.inj h; decide
    · cases h
  | ref t nn a =>
    have h : (if v = 0 then (if nn = true then none else some 3) else if v < 0 then some 3 else if (rowAt d t v.toNat).isSome = true then none else some 3) = some n := h
    split at h
    · split at h
      · cases h
      · obtain rfl := Option.some.inj h; decide
    · split at h
      · obtain rfl := Option.some.inj h; decide
      · split at h
        · cases h
        · obtain rfl := Option.some.inj h; decide
theorem broken_step {d : Db} {t : Nat} {r : VauowBase.Row} {rs : List VauowBase.Row} {i n : Nat} {c : VauowBase.Column} {rest : List VauowBase.Column} (ht : tableAt d t = rs) (hi : i < n) (h : ∀ r ∈ rs, r.vals.length = n) :
    brokenFrom d t r i (c :: rest) = if vbM d c (r.vals.getD i 0) (oth rs r.id i) = 0 then brokenFrom d t r (i + 1) rest else some ((vbM d c (r.vals.getD i 0) (oth rs r.id i)).toNat, i) := by
  show (match brokenKind d c.kind (r.vals.getD i 0) with | some n => some (n, i) | none => if (c.unique && isTwice d t i c.kind r.id (r.vals.getD i 0)) = true then some (4, i) else brokenFrom d t r (i + 1) rest) = _
  unfold vbM
  cases e : brokenKind d c.kind (r.vals.getD i 0) with
  | some m =>
    have := vb_some e
    show some (m, i) = if ((m : Nat) : Int) = 0 then _ else some (((m : Nat) : Int).toNat, i)
    rw [if_neg (by omega)]; rfl
  | none =>
    show (if (c.unique && isTwice d t i c.kind r.id (r.vals.getD i 0)) = true then some (4, i) else brokenFrom d t r (i + 1) rest) = if (if (c.unique && (!(isRef c.kind && r.vals.getD i 0 == 0) && (oth rs r.id i).contains (r.vals.getD i 0))) = true then (4 : Int) else 0) = 0 then _ else _
    unfold isTwice
    rw [ht, oth_any hi h]
    by_cases hc : (c.unique && (!(isRef c.kind && r.vals.getD i 0 == 0) && rs.any fun q => q.id != r.id && q.vals[i]? == some (r.vals.getD i 0))) = true
    · rw [if_pos hc, if_pos hc, if_neg (by decide)]; rfl
    · rw [if_neg hc, if_neg hc, if_pos rfl]
theorem vb_nonneg (d : Db) (c : VauowBase.Column) (v : Int) (os : List Int) : 0 ≤ vbM d c v os := by
  unfold vbM
  split
  · exact Int.natCast_nonneg _
  · split <;> decide
theorem ris_gt : ∀ {rs : List VauowBase.Row} {k : Nat}, risF k rs = true → ∀ q ∈ rs, k < q.id
  | [], _, _, q, h => by cases h
  | r :: rs, k, h, q, hq => by
    have h : (decide (k < r.id) && risF r.id rs) = true := h
    simp only [Bool.and_eq_true, decide_eq_true_eq] at h
    rcases List.mem_cons.mp hq with rfl | hq
    · exact h.1
    · have := ris_gt h.2 q hq
      omega
theorem find_self : ∀ {rs : List VauowBase.Row} {k : Nat}, risF k rs = true → ∀ q ∈ rs, findRow rs q.id = some q
  | [], _, _, q, h => by cases h
  | r :: rs, k, h, q, hq => by
    have h : (decide (k < r.id) && risF r.id rs) = true := h
    simp only [Bool.and_eq_true, decide_eq_true_eq] at h
    unfold findRow
    rw [List.find?_cons]
    rcases List.mem_cons.mp hq with rfl | hq
    · rw [beq_self_eq_true]
    · have := ris_gt h.2 q hq
      rw [beq_eq_false_iff_ne.mpr (show r.id ≠ q.id by omega)]
      exact find_self h.2 q hq
theorem oth_snoc (rs : List VauowBase.Row) (q : VauowBase.Row) (id i : Nat) : oth (rs ++ [q]) id i = oth rs id i ++ (if q.id = id then [] else [q.vals.getD i 0]) := by
  unfold oth
  rw [List.filter_append, List.map_append]
  congr 1
  by_cases e : q.id = id
  · rw [if_pos e, List.filter_cons, if_neg (by simp [e])]; rfl
  · rw [if_neg e, List.filter_cons, if_pos (by simpa using e)]; rfl
theorem vals_at {n i : Nat} {q : VauowBase.Row} (h : q.vals.length = n) (hi : i < n) : (q.vals.map V.int)[i]? = some (V.int (q.vals.getD i 0)) := by
  rw [List.getElem?_map, List.getD_eq_getElem?_getD, List.getElem?_eq_getElem (by omega)]; rfl
def brkV (t id : Nat) : Option (Nat × Nat) → List V
  | none => []
  | some (n, c) => [.int n, .int t, .int id, .int c]
abbrev s_row_broken : Stmt := top 102
theorem sc_row_broken : FnScope ["schema", "tables", "number", "row_id", "rows", "place", "column", "others", "rule", "other_id"] ["schema", "tables", "number", "row_id"] (defScope s_row_broken) := ⟨rfl, rfl, rfl, by decide +kernel, rfl, by decide +kernel, by decide +kernel⟩
def sp_row_broken (ad : Ads) : Sp := fun vs H Q _ => ∃ (sl tl : Addr) (s : VauowBase.Schema) (d : Db) (t : Nat) (r : VauowBase.Row) (rs : List VauowBase.Row) (tb : VauowBase.Table), vs = [.ref sl, .ref tl, .int t, .int r.id] ∧ SchAt ad H sl s ∧ DbAt H tl d ∧ GS s ∧ DO s d ∧ s[t]? = some tb ∧ d[t]? = some rs ∧ findRow rs r.id = some r ∧
  ∀ q H', H q = none → Same H H' → H' q = some (.lst (brkV t r.id (brokenFrom d t r 0 tb.columns))) → Q (.ref q) H'
theorem ok_row_broken {f : Addr} {fd : FuncData} (T : Tp K mg ad) (c_value_broken : Fc P w K mg base CX0 1 "value_broken" ["column", "value", "others", "tables"] (sp_value_broken ad))
    (F : Fun K "row_broken" "row_broken" s_row_broken f fd) : FnOk P w K mg base CX0 2 f fd ["schema", "tables", "number", "row_id"] (sp_row_broken ad) := by
  refine F.ok sc_row_broken (fun vs H Q E h => ?_) (fun cdv A outer s H vs Q E hr h => ⟨_, (pss_cons (ps_set (i := 4) sc_row_broken.nd rfl (.inr rfl) (pe_ix ix_list (pv 1) (pv 2) (fun _ _ => rfl))) (pss_cons (ps_forO PassesOwn.never rfl (pi_enum (by rfl) T.b_enumerate (pa_cons (pe_fl T.cl_Table T.n_Table_columns (pe_ix ix_list (pv 0) (pv 2) (fun _ _ => rfl))) pa_nil)) (pg_tup (by rfl) (pgs_cons (pg_name (i := 5) sc_row_broken.nd rfl (.inr rfl)) (pgs_cons (pg_name (i := 6) sc_row_broken.nd rfl (.inl rfl)) pgs_nil))) (pss_cons (ps_lock (ps_setLc (i := 7) (own := [("other_id", 9)]) (g := gName 9) rfl sc_row_broken.nd rfl rfl (sw_true rfl rfl rfl (by decide +kernel)) (pi_keys (pv 4)) (blkOk_by (N := ["schema", "tables", "number", "row_id", "rows", "place", "column", "others", "rule", "other_id"]) (sc := defScope s_row_broken) (by decide +kernel)) (fun _ _ _ _ _ => pg_name (i := 9) sc_row_broken.nd rfl (Or.inl rfl)) (fun _ _ _ _ _ => pts_one (pt_cmpR op_ne (pv 9) (pv 3) (nomark _))) (fun _ _ _ _ _ => (pe_ix (ix_tupN (K := K)) (pe_dget (hu_of hr) (pv 4) (pv 9) (fun _ _ => rfl)) (pv 5) (fun _ _ => rfl))))) (pss_cons (ps_set (i := 8) sc_row_broken.nd rfl (.inl rfl) (pe_fc c_value_broken (hr.mono (by decide)) (by rfl) (pa_cons (pv 6) (pa_cons (pe_ix ix_tup (pe_dget (hu_of hr) (pv 4) (pv 3) (fun _ _ => rfl)) (pv 5) (fun _ _ => rfl)) (pa_cons (pv 7) (pa_cons (pv 1) pa_nil)))))) (pss_one (ps_if (pt_cmpR op_ne (pv 8) (pe_cst (by rfl) T.k_NOTHING_BROKEN) (nomark _)) (pss_one (ps_ret (pe_lst (pa_cons (pv 8) (pa_cons (pv 2) (pa_cons (pv 3) (pa_cons (pv 5) pa_nil))))))) pss_nil))))) (pss_one (ps_ret (pe_lst pa_nil))))), ?_⟩)
  · obtain ⟨sl, tl, s, d, t, r, rs, tb, rfl, _⟩ := h
    rfl
  obtain ⟨sl, tl, s, d, t, r, rs, tb, rfl, hs, hd, gs, dd, hst, hdt, hfr, k⟩ := h
  obtain ⟨tas, h2, pr⟩ := hs.ex
  obtain ⟨das, h3, prd⟩ := hd.ex
  obtain ⟨ta, hta, dt, cl, cas, hto, hcl, hcs⟩ := paired_get pr hst
  obtain ⟨da, hda, kvs, h4, prk⟩ := paired_get prd hdt
  have hv1 : (das.map V.ref)[t]? = some (V.ref da) := by rw [List.getElem?_map, hda]; rfl
  have hv2 : (tas.map V.ref)[t]? = some (V.ref ta) := by rw [List.getElem?_map, hta]; rfl
  have tt := dd.tabs t rs tb hdt hst
  have gt := gs.tabs tb (List.mem_of_getElem? hst)
  have hlc := Paired.length hcs
  have eT : tableAt d t = rs := by unfold tableAt; rw [hdt]; rfl
  walk_at "rd"
  refine ⟨?_⟩
  iterate 23 walk_at "rd1"
  refine for_it (walk_enum (xs := cas.map V.ref)) (fun i σ H' => Nx (∃ x5 x6 x7 x8 x9 : Option V, σ = [some (.ref sl), some (.ref tl), some (.int t), some (.int r.id), some (.ref da), x5, x6, x7, x8, x9] ∧ Same H H' ∧ brokenFrom d t r 0 tb.columns = brokenFrom d t r i (tb.columns.drop i))) ⟨_, _, _, _, _, rfl, Same.refl _, rfl⟩ (fun i σ H' _ q => ?_) ?_ ?_
  · obtain ⟨_, _, _, _, _, _, s', _⟩ := q.h
    exact SqL.of (s' _ _ hcl)
  · rintro i v σ H2 H2' hi ⟨x5, x6, x7, x8, x9, rfl, s2, eB⟩ ⟨T', x, y, rfl, nT, rfl, hx, hy⟩
    obtain rfl := Option.some.inj hx
    obtain ⟨ca, hca, rfl⟩ := map_get hy
    obtain ⟨c, hcc, hco⟩ := paired_get' hcs hca
    rw [List.length_map] at hi
    have hi2 : i < tb.columns.length := by rw [← hlc]; exact hi
    obtain ⟨s3', hT⟩ := al2 (o := .tup [V.int (i : Nat), V.ref ca]) nT
    generalize upd H2 T' (.tup [V.int (i : Nat), V.ref ca]) = H3 at s3' hT ⊢
    have s3 := s2.trans s3'
    have ed : tb.columns.drop i = c :: tb.columns.drop (i + 1) := by
      obtain ⟨hjl, he3⟩ := List.getElem?_eq_some_iff.mp hcc
      rw [← he3]; exact List.drop_eq_getElem_cons hjl
    rw [ed, broken_step eT hi2 (fun q hq => (tt.rows q hq).len)] at eB
    have h34 := s3 _ _ h4
    walk_at "rd"
    refine ⟨trivial, fun od => ?_⟩
    have hz : upd H3 da (.frz od (.dK kvs)) da = some (.frz od (.dK kvs)) := upd_same
    have keep : ∀ {b : Addr} {u : HO}, H3 b = some u → b ≠ da → upd H3 da (.frz od (.dK kvs)) b = some u := fun e n => by rw [upd_ne n]; exact e
    generalize upd H3 da (.frz od (.dK kvs)) = Hl at hz keep ⊢
    have up : ∀ {b : Addr} {xs : List V}, H b = some (.tup xs) → Hl b = some (.tup xs) := fun {b xs} e => keep (s3 _ _ e) (fun z => by rw [z, h4] at e; cases e)
    refine ⟨_, rfl, da, od, rfl, .inl ⟨kvs, hz, fun D hD => ?_⟩⟩
    have nD : ∀ {b : Addr} {u : HO}, Hl b = some u → b ≠ D := fun e => ne_of_none e hD
    refine lc_it walk_keys (fun j H' => Nx (Same Hl H' ∧ H' D = some (.lst ((oth (rs.take j) r.id i).map V.int)))) ⟨⟨fun b u e => by rw [upd_ne (nD e)]; exact e, upd_same⟩⟩ (fun j H' _ q => q.h.1 _ _ hz) ?_ ?_
    · rintro j v H5 H5' hj ⟨s5, h5⟩ ⟨rfl, key, kv, hkv, rfl⟩
      obtain ⟨q, hq, ra, e1, hra⟩ := paired_get' prk hkv
      injection e1 with e1 e2
      subst e1 e2
      have hz5 := s5 _ _ hz
      have rq := tt.rows q (List.mem_of_getElem? hq)
      have hqm := List.mem_of_getElem? hq
      obtain ⟨ra', hkey, hra'⟩ := key_some prk (find_self tt.ris q hqm)
      have hg : DGet H5' da (kV (.inl (q.id : Int))) (some (.ref ra')) := .inl ⟨kvs, .inl (q.id : Int), .inr ⟨od, hz5⟩, rfl, hkey.symm⟩
      have h5t := s5 _ _ (up hra')
      have hva := vals_at rq.len hi2
      have hol : ((oth (rs.take j) r.id i).map V.int).length ≤ 8 := by
        rw [List.length_map]
        unfold oth
        rw [List.length_map]
        exact Nat.le_trans (List.length_filter_le _ _) (Nat.le_trans (List.length_take_le' ..) tt.len)
      walk_at "rd"
      refine ifnd (fun c1 => ?_) (fun c1 => ?_)
      · have c1 : q.id ≠ r.id := fun z => c1 (by rw [z]; rfl)
        walk_at "rd"
        refine ⟨⟨fun b u e => by rw [upd_ne (nD e)]; exact s5 b u e, ?_⟩⟩
        rw [take_more hq, oth_snoc, if_neg c1, List.map_append]
        exact upd_same
      · have c1 : q.id = r.id := by
          have c1 : V.int (q.id : Int) = V.int (r.id : Int) := c1
          injection c1 with c1
          omega
        refine ⟨⟨s5, ?_⟩⟩
        rw [take_more hq, oth_snoc, if_pos c1, List.append_nil]
        exact h5
    · rintro H5 ⟨s5, h5⟩
      rw [Paired.length prk, List.take_length] at h5
      have hD : D ≠ da := fun z => by rw [z, hz] at hD; cases hD
      refine ⟨s5 _ _ hz, ?_⟩
      have s6 : Same H3 (upd H5 da (.dK kvs)) := fun b u e => by
        by_cases hb : b = da
        · rw [hb, upd_same, ← h34, ← hb]; exact e
        · rw [upd_ne hb]; exact s5 _ _ (keep e hb)
      have h6 : upd H5 da (.dK kvs) D = some (.lst ((oth rs r.id i).map V.int)) := by rw [upd_ne hD]; exact h5
      generalize upd H5 da (.dK kvs) = H6 at s6 h6 ⊢
      have s06 := s3.trans s6
      have hc6 := hco.same s06
      have hd6 := hd.same s06
      have gk : GK d.length c.kind := by
        have := (gt.cols c (List.mem_of_getElem? hcc)).kd
        rw [dd.len]; exact this
      obtain ⟨rr, hkey, hrr⟩ := key_some prk hfr
      have hg : DGet H6 da (.int (r.id : Int)) (some (.ref rr)) := .inl ⟨kvs, .inl (r.id : Int), .inl (s06 _ _ h4), rfl, hkey.symm⟩
      have h6r := s06 _ _ hrr
      have hrm : r ∈ rs := List.mem_of_find?_eq_some hfr
      have hva := vals_at (tt.rows r hrm).len hi2
      walk_at "rd"
      refine ifnd (fun c1 => ?_) (fun c1 => ?_)
      · have c1 : vbM d c (r.vals.getD i 0) (oth rs r.id i) ≠ 0 := fun z => c1 (by rw [z])
        rw [if_neg c1] at eB
        walk_at "rd"
        intro q nq
        refine k q _ (fresh_of (as := []) (Kp.of_same s06) nq (by simp)) (s06.trans (al2 nq).1) ?_
        rw [upd_same, eB]
        show some (HO.lst [_, _, _, _]) = some (HO.lst [V.int (((vbM d c (r.vals.getD i 0) (oth rs r.id i)).toNat : Nat) : Int), _, _, _])
        rw [show (((vbM d c (r.vals.getD i 0) (oth rs r.id i)).toNat : Nat) : Int) = vbM d c (r.vals.getD i 0) (oth rs r.id i) by have := vb_nonneg d c (r.vals.getD i 0) (oth rs r.id i); omega]
      · have c1 : vbM d c (r.vals.getD i 0) (oth rs r.id i) = 0 := by injection c1
        rw [if_pos c1] at eB
        walk_at "rd"
        exact ⟨⟨_, _, _, _, _, rfl, s06, eB⟩⟩
  · rintro σ H2 ⟨x5, x6, x7, x8, x9, rfl, s2, eB⟩
    rw [List.length_map, hlc, List.drop_length] at eB
    have eB : brokenFrom d t r 0 tb.columns = none := eB
    rw [eB] at k
    walk_at "rd"
    exact fun q nq => k q _ (fresh_of (as := []) (Kp.of_same s2) nq (by simp)) (s2.trans (al2 nq).1) upd_same
end Tw
namespace Tw
open PySem PySem.Spec PyProof.Rows L2
open VauowBase (Db brokenFrom brokenRow brokenIn findRow rowAt tableAt Broken columnsOf)

variable {P : Program} {w : World} {K : PySem.W.Frag} {mg : Str → Option Value} {base : Heap} {ad : Ads}
/-! ### first_broken -/
def brkF (s : VauowBase.Schema) (d : Db) (t : Nat) (rs : List VauowBase.Row) : List Broken := rs.filterMap fun r => (brokenRow s d t r).map fun z => { code := z.1, table := t, id := r.id, column := z.2 }
def brkB : Option Broken → List V
  | none => []
  | some b => [.int b.code, .int b.table, .int b.id, .int b.column]
theorem perm_sorted : ∀ {ys ks : List Int}, ys.Perm ks → ys.Pairwise (· ≤ ·) → ks.Pairwise (· < ·) → ys = ks
  | [], ks, p, _, _ => (List.nil_perm.mp p).symm
  | y :: ys, [], p, _, _ => absurd p.length_eq (by simp)
  | y :: ys, k :: ks, p, h1, h2 => by
    rw [List.pairwise_cons] at h1 h2
    have e : y = k := by
      have m1 : y ∈ k :: ks := p.subset (by simp)
      have m2 : k ∈ y :: ys := p.symm.subset (by simp)
      rcases List.mem_cons.mp m1 with e | m1
      · exact e
      · rcases List.mem_cons.mp m2 with e | m2
        · exact e.symm
        · have := h1.1 _ m2
          have := h2.1 _ m1
          omega
    subst e
    rw [perm_sorted ((List.perm_cons y).mp p) h1.2 h2.2]
theorem ris_pair : ∀ {rs : List VauowBase.Row} {k : Nat}, risF k rs = true → (rs.map fun r => (r.id : Int)).Pairwise (· < ·)
  | [], _, _ => List.Pairwise.nil
  | r :: rs, k, h => by
    have h : (decide (k < r.id) && risF r.id rs) = true := h
    simp only [Bool.and_eq_true, decide_eq_true_eq] at h
    rw [List.map_cons, List.pairwise_cons]
    refine ⟨fun z hz => ?_, ris_pair h.2⟩
    obtain ⟨q, hq, rfl⟩ := List.mem_map.mp hz
    have := ris_gt h.2 q hq
    omega
theorem keys_ids {H : Hp} : ∀ {kvs : List (Key × V)} {rs : List VauowBase.Row}, Paired (RowR H) kvs rs → kvs.map (·.1) = (rs.map fun r => (r.id : Int)).map Sum.inl
  | _, _, .nil => rfl
  | _, _, .cons h t => by
    obtain ⟨ra, rfl, _⟩ := h
    rw [List.map_cons, List.map_cons, List.map_cons, keys_ids t]
theorem flat_nil {α β : Type} {f : α → List β} : ∀ {l : List α}, (∀ x ∈ l, f x = []) → l.flatMap f = []
  | [], _ => rfl
  | x :: l, h => by
    rw [List.flatMap_cons, h x (by simp), List.nil_append]
    exact flat_nil fun y hy => h y (by simp [hy])
theorem brk_head {s : VauowBase.Schema} {d : Db} {i j : Nat} {rs : List VauowBase.Row} {r : VauowBase.Row} {z : Nat × Nat} (hl : d.length = s.length) (h1 : ∀ (t : Nat) (rs : List VauowBase.Row), t < i → d[t]? = some rs → brkF s d t rs = []) (hi : d[i]? = some rs) (h2 : brkF s d i (rs.take j) = []) (hr : rs[j]? = some r) (hz : brokenRow s d i r = some z) :
    (brokenIn s d).head? = some { code := z.1, table := i, id := r.id, column := z.2 } := by
  obtain ⟨hil, _⟩ := List.getElem?_eq_some_iff.mp hi
  have eR : List.range s.length = List.range i ++ (i :: (List.range s.length).drop (i + 1)) := by
    have e := List.take_append_drop i (List.range s.length)
    rw [List.take_range, Nat.min_eq_left (by omega), List.drop_eq_getElem_cons (by rw [List.length_range]; omega), List.getElem_range] at e
    exact e.symm
  have eT : tableAt d i = rs := by unfold tableAt; rw [hi]; rfl
  show ((List.range s.length).flatMap fun t => brkF s d t (tableAt d t)).head? = _
  rw [eR, List.flatMap_append, flat_nil (fun t ht => ?_), List.nil_append, List.flatMap_cons, eT]
  · have e2 : rs = rs.take j ++ (r :: rs.drop (j + 1)) := by
      obtain ⟨hjl, he⟩ := List.getElem?_eq_some_iff.mp hr
      rw [← he, ← List.drop_eq_getElem_cons hjl, List.take_append_drop]
    rw [e2]
    unfold brkF at h2 ⊢
    rw [List.filterMap_append, h2, List.nil_append, List.filterMap_cons, hz]; rfl
  · have ht := List.mem_range.mp ht
    obtain ⟨q, hq⟩ : ∃ q, d[t]? = some q := ⟨d[t]'(by omega), by simp [show t < d.length by omega]⟩
    have e : tableAt d t = q := by unfold tableAt; rw [hq]; rfl
    rw [e]; exact h1 t q ht hq
theorem brk_none {s : VauowBase.Schema} {d : Db} (hl : d.length = s.length) (h1 : ∀ (t : Nat) (rs : List VauowBase.Row), t < s.length → d[t]? = some rs → brkF s d t rs = []) : (brokenIn s d).head? = none := by
  show ((List.range s.length).flatMap fun t => brkF s d t (tableAt d t)).head? = _
  rw [flat_nil (fun t ht => ?_)]
  · rfl
  · have ht := List.mem_range.mp ht
    obtain ⟨q, hq⟩ : ∃ q, d[t]? = some q := ⟨d[t]'(by omega), by simp [show t < d.length by omega]⟩
    have e : tableAt d t = q := by unfold tableAt; rw [hq]; rfl
    rw [e]; exact h1 t q ht hq
theorem brkF_snoc {s : VauowBase.Schema} {d : Db} {t : Nat} {rs : List VauowBase.Row} {r : VauowBase.Row} (h : brkF s d t rs = []) (hr : brokenRow s d t r = none) : brkF s d t (rs ++ [r]) = [] := by
  unfold brkF at h ⊢
  rw [List.filterMap_append, h, List.filterMap_cons, hr]; rfl
abbrev s_first_broken : Stmt := top 101
theorem sc_first_broken : FnScope ["schema", "tables", "number", "row_id", "broken"] ["schema", "tables"] (defScope s_first_broken) := ⟨rfl, rfl, rfl, by decide +kernel, rfl, by decide +kernel, by decide +kernel⟩
def sp_first_broken (ad : Ads) : Sp := fun vs H Q _ => ∃ (sl tl : Addr) (s : VauowBase.Schema) (d : Db), vs = [.ref sl, .ref tl] ∧ SchAt ad H sl s ∧ DbAt H tl d ∧ GS s ∧ DO s d ∧
  ∀ q H', H q = none → Same H H' → H' q = some (.lst (brkB (brokenIn s d).head?)) → Q (.ref q) H'
theorem ok_first_broken {f : Addr} {fd : FuncData} (T : Tp K mg ad) (c_row_broken : Fc P w K mg base CX0 2 "row_broken" ["schema", "tables", "number", "row_id"] (sp_row_broken ad))
    (F : Fun K "first_broken" "first_broken" s_first_broken f fd) : FnOk P w K mg base CX0 3 f fd ["schema", "tables"] (sp_first_broken ad) := by
  refine F.ok sc_first_broken (fun vs H Q E h => ?_) (fun cdv A outer s H vs Q E hr h => ⟨_, (pss_cons (ps_forO PassesOwn.never rfl (pi_range1 rfl T.b_range (pa_cons (pe_callB call_len_seq (by rfl) T.b_len (by decide +kernel) (pa_cons (pv 0) pa_nil)) pa_nil)) (pg_name (i := 2) sc_first_broken.nd rfl (.inl rfl)) (pss_one (ps_forO PassesOwn.never rfl (pi_list (pe_callB (call_sortedDI rfl) (by rfl) T.b_sorted (by decide +kernel) (pa_cons (pe_ix ix_list (pv 1) (pv 2) (fun _ _ => rfl)) pa_nil))) (pg_name (i := 3) sc_first_broken.nd rfl (.inl rfl)) (pss_cons (ps_set (i := 4) sc_first_broken.nd rfl (.inl rfl) (pe_fc c_row_broken (hr.mono (by decide)) (by rfl) (pa_cons (pv 0) (pa_cons (pv 1) (pa_cons (pv 2) (pa_cons (pv 3) pa_nil)))))) (pss_one (ps_if (pt_cmpR op_gt (pe_callB call_len_seq (by rfl) T.b_len (by decide +kernel) (pa_cons (pv 4) pa_nil)) pe_int (nomark _)) (pss_one (ps_ret (pv 4))) pss_nil)))))) (pss_one (ps_ret (pe_lst pa_nil)))), ?_⟩)
  · obtain ⟨sl, tl, s, d, rfl, _⟩ := h
    rfl
  obtain ⟨sl, tl, s, d, rfl, hs, hd, gs, dd, k⟩ := h
  obtain ⟨tas, h2, pr⟩ := hs.ex
  obtain ⟨das, h3, prd⟩ := hd.ex
  have hlt := Paired.length pr
  have hll : (tas.map V.ref).length = s.length := by rw [List.length_map]; exact hlt
  have hsl := gs.len
  refine ⟨?_⟩
  refine ⟨_, rfl, sl, tas.map V.ref, rfl, .inl (SqL.of h2), _, rfl, Int.le_trans (by decide) (Int.natCast_nonneg _), ?_, ?_⟩
  · rw [hll]; exact Int.lt_of_le_of_lt (show ((s.length : Nat) : Int) ≤ 4 by omega) (by decide)
  rw [hll, Int.toNat_natCast]
  refine for_it (walk_range (n := s.length)) (fun i σ H' => Nx (∃ x2 x3 x4 : Option V, σ = [some (.ref sl), some (.ref tl), x2, x3, x4] ∧ Same H H' ∧ ∀ (t : Nat) (rs : List VauowBase.Row), t < i → d[t]? = some rs → brkF s d t rs = [])) ⟨_, _, _, rfl, Same.refl _, fun t rs h => absurd h (Nat.not_lt_zero _)⟩ (fun _ _ _ _ _ => trivial) ?_ ?_
  · rintro i v σ H2 H2' hi ⟨x2, x3, x4, rfl, s2, hb⟩ ⟨rfl, hv⟩
    have hv : v = V.int (0 + ((i : Nat) : Int)) := hv
    rw [Int.zero_add] at hv
    subst hv
    obtain ⟨rs, hdi⟩ : ∃ q, d[i]? = some q := ⟨d[i]'(by rw [dd.len]; exact hi), by simp [show i < d.length by rw [dd.len]; exact hi]⟩
    obtain ⟨tb, hsi⟩ : ∃ q, s[i]? = some q := ⟨s[i]'hi, by simp [hi]⟩
    obtain ⟨da, hda, kvs, h4, prk⟩ := paired_get prd hdi
    have hv1 : (das.map V.ref)[i]? = some (V.ref da) := by rw [List.getElem?_map, hda]; rfl
    have tt := dd.tabs i rs tb hdi hsi
    have h23 := s2 _ _ h3
    have hrd : Rd H2' da (.dK kvs) := .inl (s2 _ _ h4)
    have hat : atI (das.map V.ref) (0 + ((i : Nat) : Int)) = some (V.ref da) := by rw [Int.zero_add]; exact atI_nat hv1
    have hks := keys_ids prk
    have h64 : (rs.map fun r => (r.id : Int)).length < 64 := by rw [List.length_map]; have := tt.len; omega
    refine ⟨?_⟩
    walk_at "rd"
    intro ys p hp1 hp2 np
    obtain rfl := perm_sorted hp1 hp2 (ris_pair tt.ris)
    obtain ⟨s3', hp⟩ := al2 (o := .lst ((rs.map fun r => (r.id : Int)).map V.int)) np
    generalize upd H2' p (.lst ((rs.map fun r => (r.id : Int)).map V.int)) = H3 at s3' hp ⊢
    have s3 := s2.trans s3'
    have hlr : ((rs.map fun r => (r.id : Int)).map V.int).length = rs.length := by rw [List.length_map, List.length_map]
    refine ⟨p, rfl, ⟨_, SqL.of hp⟩, for_it (walk_list (xs := (rs.map fun r => (r.id : Int)).map V.int)) (fun j σ H' => Nx (∃ x3 x4 : Option V, σ = [some (.ref sl), some (.ref tl), some (.int (i : Nat)), x3, x4] ∧ Same H3 H' ∧ brkF s d i (rs.take j) = [])) ⟨_, _, rfl, Same.refl _, rfl⟩ (fun j σ H' _ q => ?_) ?_ ?_⟩
    · obtain ⟨_, _, _, s', _⟩ := q.h
      exact SqL.of (s' _ _ hp)
    · rintro j v σ H5 H5' hj ⟨y3, y4, rfl, s5, hb5⟩ ⟨rfl, hv⟩
      obtain ⟨z, hz, rfl⟩ := map_get hv
      obtain ⟨r, hr, rfl⟩ := map_get hz
      have s05 := s3.trans s5
      have hs5 := hs.same s05
      have hd5 := hd.same s05
      have hfr := find_self tt.ris r (List.mem_of_getElem? hr)
      have eC : brokenRow s d i r = brokenFrom d i r 0 tb.columns := by
        unfold brokenRow columnsOf
        rw [hsi]; rfl
      walk_at "rd"
      intro q H6 nq s6 hq
      rw [← eC] at hq
      have s06 := s05.trans s6
      walk_at "rd"
      cases ez : brokenRow s d i r with
      | none =>
        rw [ez] at hq
        refine ifd (fun z => absurd z (by show ¬ ((0 : Int) < 0); decide)) (fun _ => ?_)
        walk_at "rd"
        refine ⟨⟨_, _, rfl, s5.trans s6, ?_⟩⟩
        rw [take_more hr]
        exact brkF_snoc hb5 ez
      | some z =>
        rw [ez] at hq
        refine ifd (fun _ => ?_) (fun z => absurd (by show ((0 : Int) < 4); decide) z)
        walk_at "rd"
        refine k q H6 (fresh_of (as := []) (Kp.of_same s05) nq (by simp)) s06 ?_
        rw [hq, brk_head dd.len hb hdi hb5 hr ez]; rfl
    · rintro σ H5 ⟨y3, y4, rfl, s5, hb5⟩
      rw [hlr, List.take_length] at hb5
      walk_at "rd"
      refine ⟨⟨_, _, _, rfl, s3.trans s5, fun t rs' ht hd' => ?_⟩⟩
      by_cases e : t = i
      · subst e
        rw [hdi] at hd'
        obtain rfl := Option.some.inj hd'
        exact hb5
      · exact hb t rs' (by omega) hd'
  · rintro σ H2 ⟨x2, x3, x4, rfl, s2, hb⟩
    rw [brk_none dd.len hb] at k
    walk_at "rd"
    exact fun q nq => k q _ (fresh_of (as := []) (Kp.of_same s2) nq (by simp)) (s2.trans (al2 nq).1) upd_same
end Tw
namespace Tw
open PySem PySem.Spec PyProof.Rows L2
open VauowBase (Toks RawColumn RawKind RawTable readInt readRange readRef readKind readColumns readTables wantWord wantSign tablesFor columnsFor kindFor indexOf readSchema tokens tokensIn dbFrom tablesFrom Db isValue isWord isSign isOver)
/-! ### what dbFrom gives is of the schema's form -/
theorem bind_ok {ε α β : Type} {x : Except ε α} {f : α → Except ε β} {y : β} (h : x.bind f = .ok y) : ∃ a, x = .ok a ∧ f a = .ok y := by
  cases x with
  | error e => cases h
  | ok a => exact ⟨a, rfl, h⟩
theorem rowsM_ok {w : Nat} : ∀ (n last : Nat) (l : List Int) (rs : List VauowBase.Row), n * (w + 1) ≤ l.length → rowsM w n last l = some rs → rs.length = n ∧ risF last rs = true ∧ ∀ r ∈ rs, RO w r
  | 0, last, l, rs, h, e => by
    obtain rfl := Option.some.inj e
    exact ⟨rfl, rfl, fun r hr => by cases hr⟩
  | n + 1, last, [], rs, h, e => by cases e
  | n + 1, last, i :: r, rs, h, e => by
    rw [Nat.succ_mul, List.length_cons] at h
    have e : (if i ≤ (last : Int) ∨ 99 < i ∨ (r.take w).all isValue = false then none else (rowsM w n i.toNat (r.drop w)).map fun z => ({ id := i.toNat, vals := r.take w } : VauowBase.Row) :: z) = some rs := e
    by_cases c : i ≤ (last : Int) ∨ 99 < i ∨ (r.take w).all isValue = false
    · rw [if_pos c] at e; cases e
    rw [if_neg c] at e
    cases e2 : rowsM w n i.toNat (r.drop w) with
    | none => rw [e2] at e; cases e
    | some z =>
      rw [e2] at e
      obtain rfl := Option.some.inj e
      obtain ⟨h1, h2, h3⟩ := rowsM_ok n i.toNat (r.drop w) z (by rw [List.length_drop]; omega) e2
      have c1 : ¬ i ≤ (last : Int) := fun q => c (.inl q)
      have c2 : ¬ 99 < i := fun q => c (.inr (.inl q))
      have c3 : (r.take w).all isValue = true := by
        cases q : (r.take w).all isValue with
        | true => rfl
        | false => exact absurd (.inr (.inr q)) c
      refine ⟨by rw [List.length_cons, h1], ?_, fun q hq => ?_⟩
      · show (decide (last < i.toNat) && risF i.toNat z) = true
        rw [decide_eq_true (by omega), h2]; rfl
      · rcases List.mem_cons.mp hq with rfl | hq
        · exact ⟨by show 1 ≤ i.toNat; omega, by show i.toNat ≤ 99; omega, by show (r.take w).length = w; rw [List.length_take]; omega, c3⟩
        · exact h3 q hq
theorem tabs_ok : ∀ (ts : List VauowBase.Table) (l : List Int) (z : Db × List Int), tablesFrom ts l = some z → z.1.length = ts.length ∧ ∀ (t : Nat) (rs : List VauowBase.Row) (tb : VauowBase.Table), z.1[t]? = some rs → ts[t]? = some tb → TO tb.columns.length rs
  | [], l, z, h => by
    obtain rfl := Option.some.inj h
    exact ⟨rfl, fun t rs tb h => by simp at h⟩
  | t :: ts, [], z, h => by cases h
  | t :: ts, n :: l, z, h => by
    by_cases c : n < 0 ∨ 8 < n
    · rw [tables_bad _ _ _ _ c] at h; cases h
    obtain ⟨k, rfl⟩ := Int.eq_ofNat_of_zero_le (show 0 ≤ n by omega)
    rw [tables_cons _ _ _ _ (by omega)] at h
    by_cases c2 : l.length < k * (t.columns.length + 1)
    · rw [if_pos c2] at h; cases h
    rw [if_neg c2, rowsM_take _ _ _ (by omega)] at h
    cases e : rowsM t.columns.length k 0 l with
    | none => rw [e] at h; cases h
    | some rs =>
      rw [e] at h
      cases e2 : tablesFrom ts (l.drop (k * (t.columns.length + 1))) with
      | none =>
        have h : ((tablesFrom ts (l.drop (k * (t.columns.length + 1)))).map fun z => (rs :: z.1, z.2)) = some z := h
        rw [e2] at h; cases h
      | some y =>
        have h : ((tablesFrom ts (l.drop (k * (t.columns.length + 1)))).map fun z => (rs :: z.1, z.2)) = some z := h
        rw [e2] at h
        obtain rfl := Option.some.inj h
        obtain ⟨h1, h2⟩ := tabs_ok ts _ y e2
        obtain ⟨g1, g2, g3⟩ := rowsM_ok k 0 l rs (by omega) e
        refine ⟨by rw [List.length_cons, List.length_cons, ← h1], fun j rs' tb hj ht => ?_⟩
        cases j with
        | zero =>
          obtain rfl := Option.some.inj hj
          obtain rfl := Option.some.inj ht
          exact ⟨by omega, g2, g3⟩
        | succ j => exact h2 j rs' tb (by simpa using hj) (by simpa using ht)
theorem db_ok {s : VauowBase.Schema} {l : List Int} {d : Db} (h : dbFrom s l = some d) : DO s d := by
  unfold dbFrom at h
  cases e : tablesFrom s l with
  | none => rw [e] at h; cases h
  | some z =>
    rw [e] at h
    have h : (if z.2.isEmpty = true then some z.1 else none) = some d := h
    split at h
    · obtain rfl := Option.some.inj h
      obtain ⟨h1, h2⟩ := tabs_ok s l z e
      exact ⟨h1, h2⟩
    · cases h
/-! ### what readSchema gives is sound -/
def TgE : VauowBase.Tok → Prop
  | .word v => v.length ≤ 12
  | .num n => n ≤ 1000000
  | _ => True
def Tg (ts : Toks) : Prop := ∀ x ∈ ts, TgE x.2
theorem Tg.drop {ts : Toks} (h : Tg ts) (k : Nat) : Tg (ts.drop k) := fun x hx => h x (List.mem_of_mem_drop hx)
theorem Tg.cons {p : Nat} {t : VauowBase.Tok} {ts : Toks} (h1 : TgE t) (h : Tg ts) : Tg ((p, t) :: ts) := fun x hx => by
  rcases List.mem_cons.mp hx with rfl | hx
  · exact h1
  · exact h x hx
theorem Tg.one {p : Nat} {t : VauowBase.Tok} (h1 : TgE t) : Tg [(p, t)] := Tg.cons h1 fun x hx => by cases hx
theorem Tg.tail {x : Nat × VauowBase.Tok} {ts : Toks} (h : Tg (x :: ts)) : Tg ts := fun y hy => h y (List.mem_cons_of_mem _ hy)
theorem tg_tokens (whole : Nat) : ∀ (k : Nat) (l : List Nat), Tg (tokensIn whole k l)
  | 0, l => Tg.one trivial
  | k + 1, [] => Tg.one trivial
  | k + 1, c :: r => by
    unfold tokensIn
    dsimp only
    split
    · exact tg_tokens whole k _
    split
    · exact tg_tokens whole k _
    split
    · split
      · exact Tg.one trivial
      · rename_i h
        exact Tg.cons (by show _ ≤ 12; exact Nat.not_lt.mp h) (tg_tokens whole k _)
    split
    · split
      · rename_i h
        refine Tg.cons ?_ (tg_tokens whole k _)
        unfold VauowBase.goodNumber at h
        simp only [Bool.and_eq_true, decide_eq_true_eq] at h
        have h2 : (VauowBase.valueIn (c :: r.takeWhile VauowBase.digit) : Int) ≤ 1000000 := h.2
        show VauowBase.valueIn (c :: r.takeWhile VauowBase.digit) ≤ 1000000
        omega
      · exact Tg.one trivial
    split
    · exact Tg.cons trivial (tg_tokens whole k _)
    · exact Tg.one trivial
theorem name_ok {ts : Toks} (h : Tg ts) {a : (Nat × List Nat) × Toks} (e : VauowBase.readName ts = .ok a) : a.1.2.length ≤ 12 ∧ Tg a.2 := by
  unfold VauowBase.readName at e
  split at e
  · split at e
    · cases e
    · obtain rfl := Except.ok.inj e
      exact ⟨h _ List.mem_cons_self, h.tail⟩
  · cases e
theorem int_ok {ts : Toks} (h : Tg ts) {a : (Nat × Int) × Toks} (e : readInt ts = .ok a) : (-1000000 ≤ a.1.2 ∧ a.1.2 ≤ 1000000) ∧ Tg a.2 := by
  unfold readInt at e
  split at e
  · rename_i p n r
    obtain rfl := Except.ok.inj e
    have h1 : n ≤ 1000000 := h (p, .num n) List.mem_cons_self
    refine ⟨⟨?_, ?_⟩, h.tail⟩
    · show -1000000 ≤ (n : Int); omega
    · show (n : Int) ≤ 1000000; omega
  · rename_i p q n r
    obtain rfl := Except.ok.inj e
    have h1 : n ≤ 1000000 := h (q, .num n) (by simp)
    refine ⟨⟨?_, ?_⟩, h.tail.tail⟩
    · show -1000000 ≤ -(n : Int); omega
    · show -(n : Int) ≤ 1000000; omega
  · cases e
  · cases e
theorem word_ok {x : String} {ts r : Toks} (h : Tg ts) (e : wantWord x ts = .ok r) : Tg r := by
  unfold wantWord at e
  split at e
  · obtain rfl := Except.ok.inj e
    exact h.drop 1
  · cases e
theorem sign_ok {x : Nat} {ts r : Toks} (h : Tg ts) (e : wantSign x ts = .ok r) : Tg r := by
  unfold wantSign at e
  split at e
  · obtain rfl := Except.ok.inj e
    exact h.drop 1
  · cases e
def RK : RawKind → Prop
  | .number lo hi => -1000000 ≤ lo ∧ lo ≤ 1000000 ∧ -1000000 ≤ hi ∧ hi ≤ 1000000
  | .ref _ _ _ _ => True
theorem range_ok {ts : Toks} (h : Tg ts) {a : RawKind × Toks} (e : readRange ts = .ok a) : RK a.1 ∧ Tg a.2 := by
  unfold readRange at e
  split at e
  · obtain ⟨x, e1, e⟩ := bind_ok e
    obtain ⟨⟨b1, b2⟩, t1⟩ := int_ok (h.drop 1) e1
    obtain ⟨q, e2, e⟩ := bind_ok e
    have t2 := word_ok t1 e2
    obtain ⟨y, e3, e⟩ := bind_ok e
    obtain ⟨⟨b3, b4⟩, t3⟩ := int_ok t2 e3
    split at e
    · cases e
    · obtain rfl := Except.ok.inj e
      exact ⟨⟨b1, b2, b3, b4⟩, t3⟩
  · obtain rfl := Except.ok.inj e
    exact ⟨⟨by decide, by decide, by decide, by decide⟩, h⟩
theorem ref_ok {ts : Toks} (h : Tg ts) {a : RawKind × Toks} (e : readRef ts = .ok a) : RK a.1 ∧ Tg a.2 := by
  unfold readRef at e
  obtain ⟨x, e1, e⟩ := bind_ok e
  obtain ⟨_, t1⟩ := name_ok h e1
  have t2 : Tg (if isWord "none" x.2 then x.2.drop 1 else x.2) := by
    split
    · exact t1.drop 1
    · exact t1
  have e : (if isWord "cascade" (if isWord "none" x.2 then x.2.drop 1 else x.2) = true then Except.ok (RawKind.ref x.1.1 x.1.2 (isWord "none" x.2) .cascade, (if isWord "none" x.2 then x.2.drop 1 else x.2).drop 1) else if isWord "clear" (if isWord "none" x.2 then x.2.drop 1 else x.2) = true then (if isWord "none" x.2 = true then Except.ok (RawKind.ref x.1.1 x.1.2 (isWord "none" x.2) .clear, (if isWord "none" x.2 then x.2.drop 1 else x.2).drop 1) else .error (8, VauowBase.here (if isWord "none" x.2 then x.2.drop 1 else x.2))) else .ok (RawKind.ref x.1.1 x.1.2 (isWord "none" x.2) .keep, (if isWord "none" x.2 then x.2.drop 1 else x.2))) = Except.ok a := e
  generalize (if isWord "none" x.2 then x.2.drop 1 else x.2) = r at e t2
  split at e
  · obtain rfl := Except.ok.inj e
    exact ⟨trivial, t2.drop 1⟩
  split at e
  · split at e
    · obtain rfl := Except.ok.inj e
      exact ⟨trivial, t2.drop 1⟩
    · cases e
  · obtain rfl := Except.ok.inj e
    exact ⟨trivial, t2⟩
theorem kind_ok {ts : Toks} (h : Tg ts) {a : RawKind × Toks} (e : readKind ts = .ok a) : RK a.1 ∧ Tg a.2 := by
  unfold readKind at e
  split at e
  · exact range_ok (h.drop 1) e
  split at e
  · exact ref_ok (h.drop 1) e
  · cases e
def RCo (c : RawColumn) : Prop := c.name.length ≤ 12 ∧ RK c.kind
theorem col_ok {ns : List (List Nat)} {ts : Toks} (h : Tg ts) {a : RawColumn × Toks} (e : colS ns ts = .ok a) : RCo a.1 ∧ Tg a.2 := by
  unfold colS at e
  obtain ⟨x, e1, e⟩ := bind_ok e
  obtain ⟨b1, t1⟩ := name_ok h e1
  split at e
  · cases e
  obtain ⟨q, e2, e⟩ := bind_ok e
  have t2 := sign_ok t1 e2
  obtain ⟨k, e3, e⟩ := bind_ok e
  obtain ⟨b3, t3⟩ := kind_ok t2 e3
  obtain ⟨r, e4, e⟩ := bind_ok e
  have t4 : Tg (if isWord "unique" k.2 then k.2.drop 1 else k.2) := by
    split
    · exact t3.drop 1
    · exact t3
  have t5 := sign_ok t4 e4
  obtain rfl := Except.ok.inj e
  exact ⟨⟨b1, b3⟩, t5⟩
theorem cols_ok : ∀ (n : Nat) (l : List RawColumn) {ts : Toks} (_ : Tg ts) (_ : ∀ c ∈ l, RCo c) {a : List RawColumn × Toks} (_ : readColumns n l ts = .ok a), (∀ c ∈ a.1, RCo c) ∧ Tg a.2
  | 0, l, ts, h, hl, a, e => by
    have e : (if isSign 125 ts = true then Except.ok (l, ts.drop 1) else .error (5, VauowBase.here ts)) = Except.ok a := e
    split at e
    · obtain rfl := Except.ok.inj e
      exact ⟨hl, h.drop 1⟩
    · cases e
  | n + 1, l, ts, h, hl, a, e => by
    rw [readColumns_succ] at e
    split at e
    · obtain rfl := Except.ok.inj e
      exact ⟨hl, h.drop 1⟩
    · obtain ⟨c, e1, e⟩ := bind_ok e
      obtain ⟨b1, t1⟩ := col_ok h e1
      refine cols_ok n _ t1 (fun x hx => ?_) e
      rcases List.mem_append.mp hx with hx | hx
      · exact hl x hx
      · rw [List.mem_singleton.mp hx]; exact b1
def RTo (t : RawTable) : Prop := t.name.length ≤ 12 ∧ t.columns.length ≤ 4 ∧ ∀ c ∈ t.columns, RCo c
theorem tab_ok {nt : Nat} {ns : List (List Nat)} {ts : Toks} (h : Tg ts) {a : RawTable × Toks} (e : tabS nt ns ts = .ok a) : RTo a.1 ∧ Tg a.2 ∧ nt ≠ 4 := by
  have hl := tabS_len (rt := a.1) (S' := a.2) e
  have hn : nt ≠ 4 := fun z => by rw [z] at e; exact tabS_four e
  unfold tabS at e
  obtain ⟨q, e1, e⟩ := bind_ok e
  have t1 := word_ok h e1
  rw [if_neg hn] at e
  obtain ⟨x, e2, e⟩ := bind_ok e
  obtain ⟨b2, t2⟩ := name_ok t1 e2
  split at e
  · cases e
  obtain ⟨r, e3, e⟩ := bind_ok e
  have t3 := sign_ok t2 e3
  obtain ⟨c, e4, e⟩ := bind_ok e
  obtain ⟨b4, t4⟩ := cols_ok 4 [] t3 (by simp) e4
  obtain rfl := Except.ok.inj e
  exact ⟨⟨b2, hl, b4⟩, t4, hn⟩
theorem tables_ok : ∀ (m : Nat) (l : List RawTable) {ts : Toks} (_ : Tg ts) (_ : ∀ t ∈ l, RTo t) (_ : l.length + m = 4) {a : List RawTable} (_ : readTables m l ts = .ok a), (∀ t ∈ a, RTo t) ∧ a.length ≤ 4
  | m, l, ts, h, hl, hm, a, e => by
    have e2 := readTables_eq l.length l ts rfl (by omega)
    rw [show 4 - l.length = m by omega, e] at e2
    split at e2
    · obtain rfl := Except.ok.inj e2
      exact ⟨hl, by omega⟩
    · obtain ⟨c, e3, e4⟩ := bind_ok e2.symm
      obtain ⟨b3, t3, n4⟩ := tab_ok h e3
      cases m with
      | zero => omega
      | succ m =>
        rw [show 4 - (l.length + 1) = m by omega] at e4
        refine tables_ok m (l ++ [c.1]) t3 (fun x hx => ?_) (by rw [List.length_append, List.length_singleton]; omega) e4
        rcases List.mem_append.mp hx with hx | hx
        · exact hl x hx
        · rw [List.mem_singleton.mp hx]; exact b3
theorem colsFor_ok (l : List RawTable) : ∀ (cs : List RawColumn) (z : List VauowBase.Column), columnsFor l cs = .ok z → (∀ c ∈ cs, RCo c) → z.length = cs.length ∧ ∀ c ∈ z, GD l.length c
  | [], z, e, _ => by
    obtain rfl := Except.ok.inj e
    exact ⟨rfl, by simp⟩
  | c :: cs, z, e, h => by
    have e : ((kindFor l c.kind).bind fun k => (columnsFor l cs).map fun z => { name := c.name, kind := k, unique := c.unique } :: z) = .ok z := e
    obtain ⟨k, e1, e⟩ := bind_ok e
    cases e2 : columnsFor l cs with
    | error f => rw [e2] at e; cases e
    | ok y =>
      rw [e2] at e
      obtain rfl := Except.ok.inj e
      obtain ⟨h1, h2⟩ := colsFor_ok l cs y e2 fun c hc => h c (by simp [hc])
      refine ⟨by rw [List.length_cons, List.length_cons, h1], fun x hx => ?_⟩
      rcases List.mem_cons.mp hx with rfl | hx
      · have hc := h c (by simp)
        refine ⟨hc.1, ?_⟩
        show GK l.length k
        obtain ⟨nm, kd, u⟩ := c
        cases kd with
        | number lo hi =>
          obtain rfl := Except.ok.inj e1
          exact hc.2
        | ref p x n a =>
          have e1 : (match indexOf l x with | some t => Except.ok (VauowBase.Kind.ref t n a) | none => .error (7, p)) = Except.ok k := e1
          cases e3 : indexOf l x with
          | none => rw [e3] at e1; cases e1
          | some t =>
            rw [e3] at e1
            obtain rfl := Except.ok.inj e1
            exact (List.findIdx?_eq_some_iff_getElem.mp e3).1
      · exact h2 x hx
theorem tabsFor_go (l : List RawTable) : ∀ (ts : List RawTable) (z : VauowBase.Schema), ts.foldr (fun x r => (columnsFor l x.columns).bind fun c => r.map fun z => ({ name := x.name, columns := c } : VauowBase.Table) :: z) (.ok []) = .ok z → (∀ t ∈ ts, RTo t) → z.length = ts.length ∧ ∀ t ∈ z, GT l.length t
  | [], z, e, _ => by
    obtain rfl := Except.ok.inj e
    exact ⟨rfl, by simp⟩
  | t :: ts, z, e, h => by
    rw [List.foldr_cons] at e
    obtain ⟨c, e1, e⟩ := bind_ok e
    generalize hr : ts.foldr (fun x r => (columnsFor l x.columns).bind fun c => r.map fun z => ({ name := x.name, columns := c } : VauowBase.Table) :: z) (.ok []) = y at e
    cases y with
    | error f => cases e
    | ok y =>
      obtain rfl := Except.ok.inj e
      obtain ⟨h1, h2⟩ := tabsFor_go l ts y hr fun t ht => h t (by simp [ht])
      obtain ⟨a1, a2, a3⟩ := h t (by simp)
      obtain ⟨g1, g2⟩ := colsFor_ok l t.columns c e1 a3
      refine ⟨by rw [List.length_cons, List.length_cons, h1], fun x hx => ?_⟩
      rcases List.mem_cons.mp hx with rfl | hx
      · exact ⟨a1, by show c.length ≤ 4; omega, g2⟩
      · exact h2 x hx
theorem schema_ok {bs : List Nat} {s : VauowBase.Schema} (h : readSchema bs = .ok s) : GS s := by
  unfold readSchema at h
  obtain ⟨l, e1, e⟩ := bind_ok h
  obtain ⟨h1, h2⟩ := tables_ok 4 [] (tg_tokens _ _ bs) (by simp) rfl e1
  obtain ⟨h3, h4⟩ := tabsFor_go l l s e h1
  exact ⟨by omega, by rw [h3]; exact h4⟩
end Tw
namespace Tw
open PySem PySem.Spec PyProof.Rows L2
open VauowBase (findRow)

variable {P : Program} {w : World} {K : PySem.W.Frag} {mg : Str → Option Value} {base : Heap} {ad : Ads}
abbrev s_change_of : Stmt := top 25
theorem sc_change_of : FnScope ["row_id", "began", "own"] ["row_id", "began", "own"] (defScope s_change_of) := ⟨rfl, rfl, rfl, by decide +kernel, rfl, by decide +kernel, by decide +kernel⟩
def sp_change_of : Sp := fun vs H Q _ => ∃ (i : Nat) (b o : Addr) (rs1 rs2 : List VauowBase.Row), vs = [.int i, .ref b, .ref o] ∧ TabD H b rs1 ∧ TabD H o rs2 ∧ Q (.int (if (findRow rs1 i).isSome then (if (findRow rs2 i).isSome then 1 else 2) else 0)) H
theorem ok_change_of {f : Addr} {fd : FuncData} (T : Tp K mg ad) (F : Fun K "change_of" "change_of" s_change_of f fd) : FnOk P w K mg base CX0 1 f fd ["row_id", "began", "own"] sp_change_of := by
  refine F.ok sc_change_of (fun vs H Q E h => ?_) (fun cdv A outer s H vs Q E hr h => ⟨_, (pss_cons (ps_if (pt_cmp (pc_dnotin (hu_of hr) (pv 0) (pv 1))) (pss_one (ps_ret (pe_cst (by rfl) T.k_ADDED))) pss_nil) (pss_one (ps_ret (pe_ifExp (pt_cmp (pc_din (hu_of hr) (pv 0) (pv 2))) (pe_cst (by rfl) T.k_ALTERED) (pe_cst (by rfl) T.k_REMOVED))))), ?_⟩)
  · obtain ⟨i, b, o, rs1, rs2, rfl, _⟩ := h
    rfl
  obtain ⟨i, b, o, rs1, rs2, rfl, h1, h2, k⟩ := h
  obtain ⟨kv1, e1, p1⟩ := h1.ex
  obtain ⟨kv2, e2, p2⟩ := h2.ex
  have i1 := key_is p1 (Int.natCast_nonneg i)
  have i2 := key_is p2 (Int.natCast_nonneg i)
  rw [Int.toNat_natCast] at i1 i2
  rw [← i1, ← i2] at k
  have g1 : DGet H b (.int (i : Int)) (valV kv1 (.inl (i : Int))) := DGet.k (k := .inl (i : Int)) e1
  have g2 : DGet H o (.int (i : Int)) (valV kv2 (.inl (i : Int))) := DGet.k (k := .inl (i : Int)) e2
  walk_at "rd"
  refine ifnb (b := (valV kv1 (.inl (i : Int))).isSome) (fun c1 => ?_) (fun c1 => ?_)
  · rw [c1, if_neg (by decide)] at k
    walk_at "rd"
    exact k
  · rw [c1, if_pos rfl] at k
    walk_at "rd"
    refine ifb (b := (valV kv2 (.inl (i : Int))).isSome) (fun c2 => ?_) (fun c2 => ?_)
    · rw [c2] at k
      walk_at "rd"
      exact k
    · rw [c2] at k
      walk_at "rd"
      exact k
/-! ### clashes of a row, in the heap -/
structure Cl5 where
  kind : Int
  col : Int
  a : Int
  b : Int
  c : Int
def ClR (H : Hp) (v : V) (x : Cl5) : Prop := ∃ p q, v = .ref p ∧ H p = some (.tup [.int x.kind, .int x.col, .ref q]) ∧ H q = some (.tup [.int x.a, .int x.b, .int x.c])
theorem ClR.same {H H' : Hp} (s : Same H H') {v : V} {x : Cl5} (h : ClR H v x) : ClR H' v x := by
  obtain ⟨p, q, e, h1, h2⟩ := h
  exact ⟨p, q, e, s _ _ h1, s _ _ h2⟩
def addM (a b : List Int) (n : Nat) : List Cl5 := ((List.range n).filter fun c => a.getD c 0 != b.getD c 0).map fun (i : Nat) => ({ kind := 3, col := (i : Int), a := 0, b := a.getD i 0, c := b.getD i 0 } : Cl5)
theorem addM_succ (a b : List Int) (n : Nat) : addM a b (n + 1) = addM a b n ++ (if a.getD n 0 = b.getD n 0 then [] else [⟨3, n, 0, a.getD n 0, b.getD n 0⟩]) := by
  unfold addM
  rw [List.range_succ, List.filter_append, List.map_append]
  congr 1
  by_cases e : a.getD n 0 = b.getD n 0
  · rw [if_pos e, List.filter_cons, if_neg (by rw [e, bne_self_eq_false]; decide)]; rfl
  · rw [if_neg e, List.filter_cons, if_pos (bne_iff_ne.mpr e)]; rfl
theorem ints_at {l : List Int} {i : Nat} (h : i < l.length) : (l.map V.int)[i]? = some (V.int (l.getD i 0)) := by
  rw [List.getElem?_map, List.getD_eq_getElem?_getD, List.getElem?_eq_getElem h]; rfl
abbrev s_added_clashes : Stmt := top 28
theorem sc_added_clashes : FnScope ["store", "own", "found", "column"] ["store", "own"] (defScope s_added_clashes) := ⟨rfl, rfl, rfl, by decide +kernel, rfl, by decide +kernel, by decide +kernel⟩
def sp_added_clashes : Sp := fun vs H Q _ => ∃ (sa oa : Addr) (a b : List Int), vs = [.ref sa, .ref oa] ∧ H sa = some (.tup (a.map V.int)) ∧ H oa = some (.tup (b.map V.int)) ∧ b.length = a.length ∧ a.length ≤ 100 ∧
  ∀ q ws H', H q = none → Same H H' → H' q = some (.lst ws) → Paired (ClR H') ws (addM a b a.length) → Q (.ref q) H'
theorem ok_added_clashes {f : Addr} {fd : FuncData} (T : Tp K mg ad) (F : Fun K "added_clashes" "added_clashes" s_added_clashes f fd) : FnOk P w K mg base CX0 1 f fd ["store", "own"] sp_added_clashes := by
  refine F.ok sc_added_clashes (fun vs H Q E h => ?_) (fun cdv A outer s H vs Q E hr h => ⟨_, (pss_cons (ps_set (i := 2) sc_added_clashes.nd rfl (.inl rfl) (pe_lst pa_nil)) (pss_cons (ps_forO PassesOwn.never rfl (pi_range1 rfl T.b_range (pa_cons (pe_callB call_len_seq (by rfl) T.b_len (by decide +kernel) (pa_cons (pv 0) pa_nil)) pa_nil)) (pg_name (i := 3) sc_added_clashes.nd rfl (.inl rfl)) (pss_one (ps_if (pt_cmpR op_ne (pe_ix ix_tup (pv 0) (pv 3) (fun _ _ => rfl)) (pe_ix ix_tup (pv 1) (pv 3) (fun _ _ => rfl)) (nomark _)) (pss_one (ps_expr (pe_bm PySem.F.plainAttrs_list PySem.F.slot_list_append PySem.F.type_list_append mt_appL (pv 2) (pa_cons (pe_tup (pa_cons (pe_cst (by rfl) T.k_BOTH_ADDED) (pa_cons (pv 3) (pa_cons (pe_tup (pa_cons pe_int (pa_cons (pe_ix ix_tup (pv 0) (pv 3) (fun _ _ => rfl)) (pa_cons (pe_ix ix_tup (pv 1) (pv 3) (fun _ _ => rfl)) pa_nil)))) pa_nil)))) pa_nil)))) pss_nil))) (pss_one (ps_ret (pv 2))))), ?_⟩)
  · obtain ⟨sa, oa, a, b, rfl, _⟩ := h
    rfl
  obtain ⟨sa, oa, a, b, rfl, ha, hb, hl, hz, k⟩ := h
  have hla : (a.map V.int).length = a.length := List.length_map ..
  walk_at "rd"
  intro q nq
  obtain ⟨s1, hq⟩ := al2 (o := .lst []) nq
  generalize upd H q (.lst []) = H1 at s1 hq ⊢
  refine ⟨_, rfl, sa, a.map V.int, rfl, .inr (SqT.of (s1 _ _ ha)), _, rfl, Int.le_trans (by decide) (Int.natCast_nonneg _), ?_, ?_⟩
  · rw [hla]; exact Int.lt_of_le_of_lt (show ((a.length : Nat) : Int) ≤ 100 by omega) (by decide)
  rw [hla, Int.toNat_natCast]
  refine for_it (walk_range (n := a.length)) (fun i σ H' => Nx (∃ (x : Option V) (ws : List V), σ = [some (.ref sa), some (.ref oa), some (.ref q), x] ∧ Same H H' ∧ H' q = some (.lst ws) ∧ Paired (ClR H') ws (addM a b i) ∧ ws.length ≤ i)) ⟨_, [], rfl, s1, hq, (by show Paired _ [] []; exact .nil), Nat.le_refl _⟩ (fun _ _ _ _ _ => trivial) ?_ ?_
  · rintro i v σ H2 H2' hi ⟨x, ws, rfl, s2, hq2, prw, hw⟩ ⟨rfl, hv⟩
    have hv : v = V.int (0 + ((i : Nat) : Int)) := hv
    rw [Int.zero_add] at hv
    subst hv
    have h2a := s2 _ _ ha
    have h2b := s2 _ _ hb
    have ea := ints_at (l := a) hi
    have eb := ints_at (l := b) (i := i) (by omega)
    have eaA : atI (a.map V.int) (0 + ((i : Nat) : Int)) = some (V.int (a.getD i 0)) := by rw [Int.zero_add]; exact atI_nat ea
    have ebA : atI (b.map V.int) (0 + ((i : Nat) : Int)) = some (V.int (b.getD i 0)) := by rw [Int.zero_add]; exact atI_nat eb
    walk_at "rd"
    refine ifnd (fun c1 => ?_) (fun c1 => ?_)
    · have c1 : ¬ a.getD i 0 = b.getD i 0 := fun z => c1 (by rw [z])
      walk_at "rd"
      intro t1 n1
      obtain ⟨s3, ht1⟩ := al2 (o := .tup [V.int 0, V.int (a.getD i 0), V.int (b.getD i 0)]) n1
      generalize upd H2' t1 (.tup [V.int 0, V.int (a.getD i 0), V.int (b.getD i 0)]) = H3 at s3 ht1 ⊢
      walk_at "rd"
      intro t2 n2
      obtain ⟨s4, ht2⟩ := al2 (o := .tup [V.int 3, V.int (i : Nat), V.ref t1]) n2
      generalize upd H3 t2 (.tup [V.int 3, V.int (i : Nat), V.ref t1]) = H4 at s4 ht2 ⊢
      have hq4 := s4 _ _ (s3 _ _ hq2)
      have ht14 := s4 _ _ ht1
      walk_at "rd"
      intro H5 e5
      have s04 : Same H H4 := (s2.trans s3).trans s4
      have s05 : Same H H5 := fun b u e => by rw [e5, upd_ne (ne_of_none e nq)]; exact s04 b u e
      have tp : ∀ {b : Addr} {xs : List V}, H4 b = some (.tup xs) → H5 b = some (.tup xs) := fun {b xs} e => by
        rw [e5, upd_ne (fun z => by rw [z, hq4] at e; cases e)]; exact e
      have hq5 : H5 q = some (.lst (ws ++ [V.ref t2])) := by rw [e5]; exact upd_same
      clear e5
      walk_at "rd"
      refine ⟨⟨_, _, rfl, s05, hq5, ?_, by rw [List.length_append, List.length_singleton]; omega⟩⟩
      rw [addM_succ, if_neg c1]
      exact Paired.snoc (Paired.mono (fun v x ⟨p, q', e, e1, e2⟩ => ⟨p, q', e, tp (s4 _ _ (s3 _ _ e1)), tp (s4 _ _ (s3 _ _ e2))⟩) prw) ⟨t2, t1, rfl, tp ht2, tp ht14⟩
    · have c1 : a.getD i 0 = b.getD i 0 := by injection c1
      walk_at "rd"
      refine ⟨⟨_, _, rfl, s2, hq2, ?_, by omega⟩⟩
      rw [addM_succ, if_pos c1, List.append_nil]
      exact prw
  · rintro σ H2 ⟨x, ws, rfl, s2, hq2, prw, hw⟩
    walk_at "rd"
    exact k q ws H2 nq s2 hq2 prw
end Tw
namespace Tw
open PySem PySem.Spec PyProof.Rows L2
/-! ### a set's table is laid anew: small ints, few of them, the four sizes that come -/
/-- the slots that a search goes by -/
def wayL (m : Nat) : Nat → Nat → Nat → List Nat
  | 0, _, _ => []
  | f + 1, i, b => (List.range (SetTable.runEnd m i + 1 - i)).map (i + ·) ++ wayL m f (SetTable.leap m i b).1 (SetTable.leap m i b).2
theorem free_in (m : Nat) (owner : Array (Option Nat)) : ∀ (f i b : Nat), (∃ j, j ∈ wayL m f i b ∧ oAt owner j = none) → ∃ j, SetTable.layClean.free m owner f i b = some j ∧ oAt owner j = none
  | 0, i, b, h => by
    obtain ⟨j, hj, _⟩ := h
    cases hj
  | f + 1, i, b, h => by
    rw [free_succ]
    cases e : (List.range (SetTable.runEnd m i + 1 - i)).find? fun k => (oAt owner (i + k)).isNone with
    | some k =>
      have := List.find?_some e
      exact ⟨i + k, rfl, by simpa using this⟩
    | none =>
      obtain ⟨j, hj, hn⟩ := h
      have hj : j ∈ (List.range (SetTable.runEnd m i + 1 - i)).map (i + ·) ++ wayL m f (SetTable.leap m i b).1 (SetTable.leap m i b).2 := hj
      rcases List.mem_append.mp hj with hj | hj
      · obtain ⟨k, hk, rfl⟩ := List.mem_map.mp hj
        have := List.find?_eq_none.mp e k hk
        exact absurd (by rw [hn]; rfl) this
      · exact free_in m owner f _ _ ⟨j, hj, hn⟩
theorem way_more (m : Nat) : ∀ (f g i b : Nat), ∀ j ∈ wayL m f i b, j ∈ wayL m (f + g) i b
  | 0, g, i, b, j, h => by cases h
  | f + 1, g, i, b, j, h => by
    rw [show f + 1 + g = (f + g) + 1 by omega]
    rcases List.mem_append.mp (show j ∈ (List.range (SetTable.runEnd m i + 1 - i)).map (i + ·) ++ wayL m f (SetTable.leap m i b).1 (SetTable.leap m i b).2 from h) with h | h
    · exact List.mem_append.mpr (.inl h)
    · exact List.mem_append.mpr (.inr (way_more m f g _ _ j h))
theorem way_le (m : Nat) : ∀ (f i b : Nat), i ≤ m → ∀ j ∈ wayL m f i b, j ≤ m
  | 0, i, b, hi, j, h => by cases h
  | f + 1, i, b, hi, j, h => by
    rcases List.mem_append.mp (show j ∈ (List.range (SetTable.runEnd m i + 1 - i)).map (i + ·) ++ wayL m f (SetTable.leap m i b).1 (SetTable.leap m i b).2 from h) with h | h
    · obtain ⟨k, hk, rfl⟩ := List.mem_map.mp h
      have hk := List.mem_range.mp hk
      have : SetTable.runEnd m i ≤ m := by
        unfold SetTable.runEnd
        split
        · assumption
        · exact hi
      omega
    · refine way_le m f _ _ ?_ j h
      exact Nat.le_of_lt_succ (Nat.mod_lt _ (Nat.succ_pos m))
/-- so many slots, each once, that a search goes by in its first turns -/
def dist : Nat → List Nat → List Nat → List Nat
  | 0, acc, _ => acc
  | _ + 1, acc, [] => acc
  | n + 1, acc, x :: l => if acc.contains x then dist (n + 1) acc l else dist n (x :: acc) l
theorem dist_ok : ∀ (l : List Nat) (n : Nat) (acc : List Nat), acc.Nodup → (dist n acc l).Nodup ∧ ∀ x ∈ dist n acc l, x ∈ acc ∨ x ∈ l
  | l, 0, acc, h => by
    have e : dist 0 acc l = acc := by cases l <;> rfl
    rw [e]
    exact ⟨h, fun x hx => .inl hx⟩
  | [], n + 1, acc, h => ⟨h, fun x hx => .inl hx⟩
  | y :: l, n + 1, acc, h => by
    have e : dist (n + 1) acc (y :: l) = if acc.contains y = true then dist (n + 1) acc l else dist n (y :: acc) l := rfl
    rw [e]
    by_cases c : acc.contains y = true
    · rw [if_pos c]
      obtain ⟨h1, h2⟩ := dist_ok l (n + 1) acc h
      exact ⟨h1, fun x hx => (h2 x hx).imp id fun z => List.mem_cons_of_mem _ z⟩
    · rw [if_neg c]
      obtain ⟨h1, h2⟩ := dist_ok l n (y :: acc) (List.nodup_cons.mpr ⟨by simpa using c, h⟩)
      refine ⟨h1, fun x hx => ?_⟩
      rcases h2 x hx with z | z
      · rcases List.mem_cons.mp z with rfl | z
        · exact .inr (by simp)
        · exact .inl z
      · exact .inr (List.mem_cons_of_mem _ z)
def seenL (m f c h : Nat) : List Nat := dist (c + 1) [] (wayL m f (h % (m + 1)) h)
def seenB (m f c : Nat) : Bool := (List.range 100).all fun h => decide (c < (seenL m f c h).length)
theorem seen7 : seenB 7 6 4 = true := by decide +kernel
theorem seen15 : seenB 15 7 8 = true := by decide +kernel
theorem seen31 : seenB 31 7 16 = true := by decide +kernel
theorem seen63 : seenB 63 6 16 = true := by decide +kernel
structure MaskS (m c : Nat) : Prop where
  ex : ∃ f g, SetTable.turns m = f + g ∧ seenB m f c = true
theorem mask7 : MaskS 7 4 := ⟨6, 16, rfl, seen7⟩
theorem mask15 : MaskS 15 8 := ⟨7, 23, rfl, seen15⟩
theorem mask31 : MaskS 31 16 := ⟨7, 39, rfl, seen31⟩
theorem mask63 : MaskS 63 16 := ⟨6, 72, rfl, seen63⟩
/-- a free slot is found while few are taken -/
theorem free_few {m c : Nat} (M : MaskS m c) {owner : Array (Option Nat)} {ps : List Nat} (hp : ps.length ≤ c) (ho : ∀ j, j ≤ m → oAt owner j ≠ none → j ∈ ps) {h : Int} (h0 : 0 ≤ h) (h1 : h < 100) :
    ∃ j, SetTable.layClean.free m owner (SetTable.turns m) (SetTable.bits h % (m + 1)) (SetTable.bits h) = some j ∧ oAt owner j = none := by
  obtain ⟨f, g, et, hs⟩ := M.ex
  have eb : SetTable.bits h = h.toNat := by
    unfold SetTable.bits
    rw [Int.emod_eq_of_lt h0 (Int.lt_trans h1 (by decide))]
  have hh : h.toNat ∈ List.range 100 := List.mem_range.mpr (by omega)
  have hc := of_decide_eq_true (List.all_eq_true.mp hs _ hh)
  obtain ⟨nd, hin⟩ := dist_ok (wayL m f (h.toNat % (m + 1)) h.toNat) (c + 1) [] List.nodup_nil
  rw [eb, et]
  refine free_in m owner (f + g) _ _ ?_
  by_cases ex : ∃ j, j ∈ seenL m f c h.toNat ∧ oAt owner j = none
  · obtain ⟨j, hj, hn⟩ := ex
    rcases hin j hj with z | z
    · cases z
    · exact ⟨j, way_more m f g _ _ j z, hn⟩
  · have := nat_nodup_len _ _ nd fun j hj => by
      have hne : oAt owner j ≠ none := fun z => ex ⟨j, hj, z⟩
      refine ho j ?_ hne
      rcases hin j hj with z | z
      · cases z
      · exact way_le m f _ _ (Nat.le_of_lt_succ (Nat.mod_lt _ (Nat.succ_pos m))) j z
    have hc : c < (dist (c + 1) [] (wayL m f (h.toNat % (m + 1)) h.toNat)).length := hc
    omega
end Tw
namespace Tw
open PySem PySem.Spec PyProof.Rows L2
structure OwnS (m n : Nat) (owner : Array (Option Nat)) : Prop where
  sz : owner.size = m + 1
  lt : ∀ j k, j ≤ m → oAt owner j = some k → k < n
  all : ∀ k, k < n → ∃ j, j ≤ m ∧ oAt owner j = some k
  ps : ∃ ps : List Nat, ps.length = n ∧ ∀ j, j ≤ m → oAt owner j ≠ none → j ∈ ps
theorem oA_at {owner : Array (Option Nat)} {j : Nat} (h : j < owner.size) : oAt owner j = owner[j] := by
  simp [oAt, Array.getD, h]
theorem oA_set {owner : Array (Option Nat)} {j i : Nat} {x : Option Nat} (h : i < owner.size) : oAt (owner.setIfInBounds j x) i = if j = i then x else oAt owner i := by
  rw [oA_at (by rw [Array.size_setIfInBounds]; exact h), oA_at h, Array.getElem_setIfInBounds]
theorem OwnS.init (m : Nat) : OwnS m 0 (Array.replicate (m + 1) none) := by
  have e : ∀ j, j ≤ m → oAt (Array.replicate (m + 1) none) j = none := fun j hj => by
    rw [oA_at (by rw [Array.size_replicate]; omega), Array.getElem_replicate]
  exact ⟨by simp, fun j k hj h => (by rw [e j hj] at h; cases h), fun k h => absurd h (Nat.not_lt_zero _), [], rfl, fun j hj h => absurd (e j hj) h⟩
theorem OwnS.step {m c n : Nat} (M : MaskS m c) {owner : Array (Option Nat)} (W : OwnS m n owner) (hn : n ≤ c) {h : Int} (h0 : 0 ≤ h) (h1 : h < 100) :
    ∃ j, SetTable.layClean.free m owner (SetTable.turns m) (SetTable.bits h % (m + 1)) (SetTable.bits h) = some j ∧ OwnS m (n + 1) (owner.setIfInBounds j (some n)) := by
  obtain ⟨ps, hps, hin⟩ := W.ps
  obtain ⟨j, hj, hjn⟩ := free_few M (by omega) hin h0 h1
  have hjm : j ≤ m := by
    have hs := W.sz
    by_cases z : j < owner.size
    · omega
    · unfold oAt at hjn
      rw [Array.getD_eq_getD_getElem?, Array.getElem?_eq_none (by omega)] at hjn
      cases hjn
  have up : ∀ i, i ≤ m → oAt (owner.setIfInBounds j (some n)) i = if j = i then some n else oAt owner i := fun i hi => oA_set (by rw [W.sz]; omega)
  refine ⟨j, hj, by rw [Array.size_setIfInBounds]; exact W.sz, fun i k hi e => ?_, fun k hk => ?_, j :: ps, by rw [List.length_cons, hps], fun i hi e => ?_⟩
  · rw [up i hi] at e
    split at e
    · obtain rfl := Option.some.inj e; omega
    · have := W.lt i k hi e; omega
  · by_cases z : k = n
    · exact ⟨j, hjm, by rw [up j hjm, if_pos rfl, z]⟩
    · obtain ⟨i, hi, e⟩ := W.all k (by omega)
      refine ⟨i, hi, ?_⟩
      rw [up i hi, if_neg (fun z => by rw [← z, hjn] at e; cases e)]
      exact e
  · by_cases z : j = i
    · rw [z]; simp
    · rw [up i hi, if_neg z] at e
      exact List.mem_cons_of_mem _ (hin i hi e)
theorem foldS_ok {m c : Nat} (M : MaskS m c) : ∀ (l : List Int) (n : Nat) (owner : Array (Option Nat)), OwnS m n owner → n + l.length ≤ c + 1 → (∀ h ∈ l, 0 ≤ h ∧ h < 100) → ∃ owner', l.foldl (stepF m) (some (owner, n)) = some (owner', n + l.length) ∧ OwnS m (n + l.length) owner'
  | [], n, owner, W, _, _ => ⟨owner, rfl, W⟩
  | h :: l, n, owner, W, hl, hb => by
    rw [List.length_cons] at hl
    obtain ⟨h0, h1⟩ := hb h (by simp)
    obtain ⟨j, e, W2⟩ := W.step M (by omega) h0 h1
    obtain ⟨o, e2, W3⟩ := foldS_ok M l (n + 1) _ W2 (by omega) fun x hx => hb x (by simp [hx])
    refine ⟨o, ?_, by rw [List.length_cons, show n + (l.length + 1) = n + 1 + l.length by omega]; exact W3⟩
    rw [List.foldl_cons, stepF_some e, e2, List.length_cons, show n + (l.length + 1) = n + 1 + l.length by omega]
theorem lay_ok {m c : Nat} (M : MaskS m c) {hs : Array Int} (hn : hs.size ≤ c + 1) (hb : ∀ h ∈ hs.toList, 0 ≤ h ∧ h < 100) : ∃ owner, SetTable.layClean m hs = some owner ∧ OwnS m hs.size owner := by
  obtain ⟨o, e, W⟩ := foldS_ok M hs.toList 0 _ (OwnS.init m) (by rw [Array.length_toList]; omega) hb
  rw [Nat.zero_add, Array.length_toList] at e W
  refine ⟨o, ?_, W⟩
  rw [layClean_eq, e]; rfl
end Tw
namespace Tw
open PySem PySem.Spec PyProof.Rows L2
theorem laid_ok {m c : Nat} (M : MaskS m c) (finger moves : Nat) (led plain : Bool) {hs : Array Int} (hn : hs.size ≤ c + 1) (hb : ∀ h ∈ hs.toList, 0 ≤ h ∧ h < 100) :
    ∃ t order, SetTable.laid m finger moves led plain hs = some (t, order) ∧ order.toList.Perm (List.range hs.size) ∧ Ris t.place.toList ∧ t.place.size = hs.size ∧ (∀ x ∈ t.place.toList, x ≤ m) ∧ t.mask = m ∧ t.dummies = #[] ∧ t.led = led ∧ t.plain = plain := by
  obtain ⟨owner, e, W⟩ := lay_ok M hn hb
  have hr : SetTable.laid m finger moves led plain hs = some ({ mask := m, place := ((liveOf m owner).map (·.1)).toArray, dummies := #[], finger, led, moves, plain }, ((liveOf m owner).map (·.2)).toArray) := by
    unfold SetTable.laid
    rw [e]; rfl
  have ris := ris_live (fun j => owner.getD j none) (List.range (m + 1)) (by
    unfold Ris
    exact List.pairwise_lt_range)
  have r1 : Ris ((liveOf m owner).map (·.1)) := ris.1
  have r2 : ∀ x ∈ (liveOf m owner).map (·.1), x ∈ List.range (m + 1) := ris.2
  have nd : ((liveOf m owner).map (·.1)).Nodup := List.Pairwise.imp (fun h => Nat.ne_of_lt h) r1
  have hlen : (liveOf m owner).length = hs.size := by
    obtain ⟨ps, p1, p2⟩ := W.ps
    have a := nat_nodup_len _ _ nd fun x hx => by
      obtain ⟨⟨y, k⟩, hq, rfl⟩ := List.mem_map.mp hx
      obtain ⟨b1, b2⟩ := (mem_live W.sz).1 hq
      exact p2 y b1 (by rw [b2]; exact fun z => nomatch z)
    have b := nat_nodup_len (List.range hs.size) ((liveOf m owner).map (·.2)) List.nodup_range fun k hk => by
      obtain ⟨j, b1, b2⟩ := W.all k (List.mem_range.mp hk)
      exact List.mem_map.mpr ⟨(j, k), (mem_live W.sz).2 ⟨b1, b2⟩, rfl⟩
    rw [List.length_map, p1] at a
    rw [List.length_map, List.length_range] at b
    omega
  refine ⟨_, _, hr, ?_, r1, ?_, fun x hx => ?_, rfl, rfl, rfl, rfl⟩
  · refine perm_range hs.size _ ?_ fun k hk => ?_
    · show ((liveOf m owner).map (·.2)).length = hs.size
      rw [List.length_map]; exact hlen
    · obtain ⟨j, b1, b2⟩ := W.all k hk
      exact List.mem_map.mpr ⟨(j, k), (mem_live W.sz).2 ⟨b1, b2⟩, rfl⟩
  · show ((liveOf m owner).map (·.1)).toArray.size = hs.size
    rw [List.size_toArray, List.length_map]; exact hlen
  · exact Nat.le_of_lt_succ (List.mem_range.mp (r2 x hx))
end Tw
namespace Tw
open PySem PySem.Spec PyProof.Rows L2
variable {P : Program} {w : World} {A : Around} {E : Value → Shared → Prop} {s : Shared} {a : Addr} {S : Int → Bool} {n : Nat}
theorem range_all {α : Type} (es : Array α) : ∀ k, k ≤ es.size → (List.range k).filterMap (es[·]?) = es.toList.take k
  | 0, _ => rfl
  | k + 1, h => by
    have hk : es.toList[k]? = some es[k] := by
      rw [Array.getElem?_toList]; exact Array.getElem?_eq_getElem (by omega)
    rw [List.range_succ, List.filterMap_append, range_all es k (by omega), take_more hk]
    congr 1
    rw [List.filterMap_cons, Array.getElem?_eq_getElem (by omega : k < es.size)]; rfl
theorem setR_relay {M c wanted : Nat} {Q : Unit → Shared → Prop} (hM : MaskS M c) (hw : SetTable.sizeAbove wanted = M + 1) (hM2 : M < 1000) (R : SetR w s.heap a S n) (hn : n ≤ c + 1) (hn2 : n ≤ M) (hk : ∀ k, S k = true → 0 ≤ hashInt k ∧ hashInt k < 100)
    (hQ : ∀ h', Heap.SameBut a s.heap h' → SetR w h' a S n → Q () { s with heap := h' }) : wpAny (model P w) A (setRelay a wanted) Q E s := by
  obtain ⟨o, es, ep, t, ho, hx, hd, g, nd, hm, hb, hf, hsize, hr, hl⟩ := R
  have hall : ∀ h ∈ (es.map (·.1)).toList, 0 ≤ h ∧ h < 100 := fun h hh => by
    rw [Array.toList_map] at hh
    obtain ⟨e, he, rfl⟩ := List.mem_map.mp hh
    obtain ⟨k, tk, e1, e2⟩ := g e he
    rw [e2]
    refine hk k ((hm k).mpr (List.mem_map.mpr ⟨e, he, ?_⟩))
    unfold keyOf; rw [e1]
  obtain ⟨t', order, el, pm, r', sz', bd', em, ed, eled, epl⟩ := laid_ok hM t.finger (t.movedTo M) t.led t.plain (hs := es.map (·.1)) (by rw [Array.size_map]; omega) hall
  rw [Array.size_map] at pm sz'
  have er : t.relaid (es.map (·.1)) wanted = some (t', order) := by
    unfold SetTable.relaid
    rw [show SetTable.sizeAbove wanted - 1 = M by omega]; exact el
  have pe : (order.filterMap (es[·]?)).toList.Perm es.toList := by
    rw [Array.toList_filterMap]
    refine (pm.filterMap _).trans ?_
    rw [range_all es es.size (Nat.le_refl _), ← Array.length_toList, List.take_length]
  unfold setRelay
  refine wpAny_bind (wpAny_setState_of ho hd hf ?_)
  dsimp only
  refine wp_if_neg (by rw [hw, sizeLine_eq]; omega) ?_
  rw [er]
  have hes : (order.filterMap (es[·]?)).size = es.size := by rw [← Array.length_toList, pe.length_eq, Array.length_toList]
  refine wpAny_bind ?_
  refine wp_if_neg (by rw [hes]; simp) ?_
  refine wpAny_pure ?_
  generalize order.filterMap (es[·]?) = es2 at pe hes ⊢
  refine wpAny_storeSet_of ho hd ?_ (fits_of_scanBound (by rw [hes]; exact hb))
  refine hQ _ (Heap.SameBut.update s.heap a _) ?_
  refine ⟨_, es2, _, t', store_at (es' := es2) (t' := t') ho hd, hx, rfl, fun e he => g e (pe.mem_iff.mp he), (pe.map keyOf).nodup_iff.mpr nd, fun k => (hm k).trans (pe.map keyOf).mem_iff.symm, by rw [hes]; exact hb, ?_, by rw [hes]; exact hsize, r', hl.imp id fun z => by rw [eled]; exact z⟩
  unfold SetTable.fits SetTable.fill
  rw [sz', hes, ed, em, beq_self_eq_true, Bool.true_and]
  exact decide_eq_true (by show es.size + 0 ≤ M; omega)
end Tw
namespace Tw
open PySem PySem.Spec PyProof.Rows L2
variable {P : Program} {w : World} {A : Around} {E : Value → Shared → Prop} {s : Shared} {a : Addr} {S : Int → Bool} {n : Nat}
theorem size_tab : ∀ k ∈ List.range 33, SetTable.sizeAbove k = if k < 8 then 8 else if k < 16 then 16 else if k < 32 then 32 else 64 := by decide +kernel
theorem setR_relay2 {m : Nat} {Q : Unit → Shared → Prop} (R : SetR w s.heap a S n) (hm : n + m ≤ 16) (hk : ∀ k, S k = true → 0 ≤ hashInt k ∧ hashInt k < 100)
    (hQ : ∀ h', Heap.SameBut a s.heap h' → SetR w h' a S n → Q () { s with heap := h' }) : wpAny (model P w) A (setRelay a ((n + m) * 2)) Q E s := by
  have e := size_tab ((n + m) * 2) (List.mem_range.mpr (by omega))
  by_cases h1 : (n + m) * 2 < 8
  · rw [if_pos h1] at e
    exact setR_relay mask7 e (by omega) R (by omega) (by omega) hk hQ
  rw [if_neg h1] at e
  by_cases h2 : (n + m) * 2 < 16
  · rw [if_pos h2] at e
    exact setR_relay mask15 e (by omega) R (by omega) (by omega) hk hQ
  rw [if_neg h2] at e
  by_cases h3 : (n + m) * 2 < 32
  · rw [if_pos h3] at e
    exact setR_relay mask31 e (by omega) R (by omega) (by omega) hk hQ
  rw [if_neg h3] at e
  exact setR_relay mask63 e (by omega) R (by omega) (by omega) hk hQ
theorem setR_room {m : Nat} {Q : Unit → Shared → Prop} (R : SetR w s.heap a S n) (hm : n + m ≤ 16) (hk : ∀ k, S k = true → 0 ≤ hashInt k ∧ hashInt k < 100)
    (hQ : ∀ h', Heap.SameBut a s.heap h' → SetR w h' a S n → Q () { s with heap := h' }) : wpAny (model P w) A (setRoomFor a m) Q E s := by
  have R0 := R
  obtain ⟨o, es, ep, t, ho, hx, hd, g, nd, hmm, hb, hf, hsize, hr, hl⟩ := R
  have hp : t.place.size = n := by
    unfold SetTable.fits at hf
    simp only [Bool.and_eq_true, beq_iff_eq] at hf
    omega
  unfold setRoomFor
  refine wpAny_bind (wpAny_setState_of ho hd hf ?_)
  dsimp only
  unfold SetTable.roomFor
  by_cases c : (t.fill + m) * 5 ≥ t.mask * 3
  · rw [if_pos c, hp]
    exact setR_relay2 R0 hm hk hQ
  · rw [if_neg c]
    refine wpAny_pure ?_
    have := hQ s.heap (Heap.SameBut.refl _ _) R0
    exact this
end Tw
namespace Tw
open PySem PySem.Spec PyProof.Rows L2
variable {P : Program} {w : World} {A : Around} {E : Value → Shared → Prop} {s : Shared} {a b : Addr} {S U : Int → Bool} {n m : Nat}
/-- a set as it's made -/
def Fre (w : World) (h : Heap) (a : Addr) : Prop := h.get? a = some { cls := .type "set", dict := none, data := .set #[] 0 (.fresh 0 0 (!w.params.followText "set-order")) }
theorem Fre.setR {h : Heap} (f : Fre w h a) : SetR w h a (fun _ => false) 0 :=
  (setR_new_at (ns := []) f).congr fun k => by simp
/-- the entries of a set, in some order -/
structure EsOf (S : Int → Bool) (l : List (Int × Value)) : Prop where
  good : ∀ e ∈ l, GoodE e
  nd : (l.map keyOf).Nodup
  mem : ∀ k, S k = true ↔ k ∈ l.map keyOf
theorem EsOf.perm {l l' : List (Int × Value)} (h : EsOf S l) (p : l'.Perm l) : EsOf S l' :=
  ⟨fun e he => h.good e (p.mem_iff.mp he), (p.map keyOf).nodup_iff.mpr h.nd, fun k => (h.mem k).trans (p.map keyOf).mem_iff.symm⟩
theorem setWalk_at {Q : Array (Int × Value) → Shared → Prop} (R : SetR w s.heap a S n) (hQ : ∀ d ar, EsOf S ar.toList → Q ar { s with drawn := d }) : wpAny (model P w) A (setWalk a) Q E s := by
  obtain ⟨o, es, ep, t, ho, hx, hd, g, nd, hm, hb, hf, hsize, hr, hl⟩ := R
  have W : EsOf S es.toList := ⟨g, nd, hm⟩
  unfold setWalk
  refine wpAny_bind (wpAny_setState_of ho hd hf ?_)
  dsimp only
  refine wpAny_bind (wpAny_byText ?_)
  by_cases hbt : w.params.followText "set-order" = true
  · refine wp_if_pos hbt ?_
    exact wpAny_bind (wpAny_askSetting (wpAny_pure (hQ s.drawn _ (W.perm (pick_perm _ _)))))
  · refine wp_if_neg hbt ?_
    have hled : t.led = true := hl.resolve_left hbt
    cases hdr : (!t.plain && decide (es.size > 1)) with
    | true =>
      refine wp_if_pos (by show (!t.plain && decide (es.size > 1)) = true; exact hdr) ?_
      refine wpAny_bind (drawOrder_at _ _ _ _ (by simp) fun ys d hp => wpAny_pure ?_)
      exact hQ d ys.toArray (W.perm (by simpa using hp))
    | false =>
      refine wp_if_neg (by show ¬ ((!t.plain && decide (es.size > 1)) = true); rw [hdr]; exact Bool.false_ne_true) ?_
      refine wpAny_bind (wpAny_of_eq (a := ()) ?_ ?_)
      · show (if (!t.led && decide (es.size > 1)) = true then unsupported "set:maker-not-led" else pure ()) = pure ()
        rw [hled] <;> rfl
      · exact wpAny_pure (hQ s.drawn es W)
theorem quiet_at {Q : Bool → Shared → Prop} : ∀ (l : List Addr), (∀ x ∈ l, ∃ S n, SetR w s.heap x S n) → Q true s → wpAny (model P w) A (setsQuiet l) Q E s := by
  intro l hl q
  unfold setsQuiet
  refine wpAny_bind ?_
  refine wpAny_forIn_list _ (fun rest c s' => c = (none, ()) ∧ s' = s ∧ ∀ x ∈ rest, ∃ S n, SetR w s.heap x S n) _ ?_ ?_ _ _ ⟨rfl, rfl, hl⟩
  · rintro x rest c s' ⟨rfl, rfl, hr⟩
    obtain ⟨S, n, o, es, ep, t, ho, hx, hd, g, _, _, _, hf, _⟩ := hr x (by simp)
    refine wpAny_bind (wpAny_setEntries_of ho hd hf ?_)
    refine wpAny_bind ?_
    refine MeetsSeq2.wpAny_forIn_array _ (fun rest c s'' => c = (none, ()) ∧ s'' = s' ∧ ∀ e ∈ rest, GoodE e) _ ?_ ?_ _ _ ⟨rfl, rfl, g⟩
    · rintro ⟨e1, e2⟩ rest' c s'' ⟨rfl, rfl, hg⟩
      obtain ⟨k, tk, he, _⟩ := hg (e1, e2) (by simp)
      have he : e2 = Value.int k tk := he
      subst he
      exact wpAny_pure ⟨rfl, rfl, fun e h => hg e (List.mem_cons_of_mem _ h)⟩
    · rintro c s'' ⟨rfl, rfl, _⟩
      exact wpAny_pure ⟨rfl, rfl, fun x h => hr x (List.mem_cons_of_mem _ h)⟩
  · rintro c s' ⟨rfl, rfl, _⟩
    exact wpAny_pure q
end Tw
namespace Tw
open PySem PySem.Spec PyProof.Rows L2
variable {P : Program} {w : World} {A : Around} {E : Value → Shared → Prop} {s : Shared} {a b : Addr} {S U : Int → Bool} {n m : Nat}
/-- the entries of b, to be put into a -/
theorem walkUnseen_at {Q : Array (Int × Value) → Shared → Prop} (R : SetR w s.heap b S n) (R2 : SetR w s.heap a U m) (hne : a ≠ b)
    (hQ : ∀ d h' ar, Heap.SameBut a s.heap h' → SetR w h' a U m → EsOf S ar.toList → Q ar { s with heap := h', drawn := d }) : wpAny (model P w) A (setWalkUnseen b [a] (some a)) Q E s := by
  have R0 := R
  have R02 := R2
  obtain ⟨o, es, ep, t, ho, hx, hd, g, nd, hm, hb, hf, hsize, hr, hl⟩ := R
  have walk : wpAny (model P w) A (setWalk b) Q E s := setWalk_at R0 fun d ar W => by
    have := hQ d s.heap ar (Heap.SameBut.refl _ _) R02 W
    exact this
  unfold setWalkUnseen
  refine wpAny_bind (wpAny_setState_of ho hd hf ?_)
  dsimp only
  refine wpAny_bind (wpAny_byText ?_)
  by_cases c : (w.params.followText "set-order" || t.led && t.plain || decide (es.size ≤ 1)) = true
  · exact wp_if_pos c walk
  refine wp_if_neg c ?_
  simp only [Bool.or_eq_true, not_or, Bool.and_eq_true, decide_eq_true_eq] at c
  obtain ⟨⟨c1, c2⟩, c3⟩ := c
  have hled : t.led = true := hl.resolve_left c1
  have hpl : t.plain = false := by
    cases q : t.plain with
    | false => rfl
    | true => exact absurd ⟨hled, q⟩ c2
  refine wpAny_bind (quiet_at [b, a] (fun x hx => ?_) ?_)
  · rcases List.mem_cons.mp hx with rfl | hx
    · exact ⟨_, _, R0⟩
    · rw [List.mem_singleton.mp hx]; exact ⟨_, _, R02⟩
  refine wp_if_neg (by simp) ?_
  refine wpAny_bind (wpAny_rule ?_)
  obtain ⟨o2, es2, ep2, t2, ho2, hx2, hd2, g2, nd2, hm2, hb2, hf2, hsize2, hr2, hl2⟩ := R2
  refine wpAny_bind (wpAny_setState_of ho2 hd2 hf2 ?_)
  dsimp only
  by_cases c4 : ((t2.led && !t.led) || (t2.plain && !t.plain)) = true
  · refine wp_if_pos c4 ?_
    refine wpAny_bind (wpAny_storeSet_of ho2 hd2 ?_ (fits_of_scanBound hb2))
    refine wpAny_pure ?_
    refine hQ s.drawn _ es (Heap.SameBut.update s.heap a _) ?_ ⟨g, nd, hm⟩
    exact ⟨_, es2, _, _, store_at (es' := es2) (t' := { t2 with led := t2.led && t.led, plain := t2.plain && t.plain }) ho2 hd2, hx2, rfl, g2, nd2, hm2, hb2, hf2, hsize2, hr2, hl2.imp id fun z => by show (t2.led && t.led) = true; rw [z, hled]; rfl⟩
  · refine wp_if_neg c4 ?_
    refine wpAny_pure ?_
    exact hQ s.drawn s.heap es (Heap.SameBut.refl _ _) R02 ⟨g, nd, hm⟩
def addStep (a b : Addr) (each : Sem Unit) (ep0 : Nat) : Int × Value → PUnit → Sem (ForInStep PUnit) := fun x _ => match x with
  | (h, x) => do
    let _ ← holding [x] (setAddHashed a x h)
    each
    let st ← setState b
    if (st.2.1 != ep0) = true then do
      unsupported "set.changed-during-merge"
      pure (ForInStep.yield PUnit.unit)
    else pure (ForInStep.yield PUnit.unit)
/-- one by one -/
theorem addAll_at {ep0 : Nat} {each : Sem Unit} (heach : ∀ (s' : Shared) (Q' : Unit → Shared → Prop), SetR w s'.heap b S n → (∀ o es ep t, s'.heap.get? b = some o → o.data = .set es ep t → ep = ep0) → Q' () s' → wpAny (model P w) A each Q' E s') {Q : Unit → Shared → Prop} (hne : a ≠ b) :
    ∀ (l : List (Int × Value)) (U : Int → Bool) (m : Nat) (s : Shared), SetR w s.heap b S n → (∀ o es ep t, s.heap.get? b = some o → o.data = .set es ep t → ep = ep0) → SetR w s.heap a U m → (∀ e ∈ l, GoodE e) → m + l.length < scanBound →
      (∀ h' V m', Heap.SameBut a s.heap h' → SetR w h' a V m' → (∀ k, V k = true ↔ U k = true ∨ k ∈ l.map keyOf) → m' ≤ m + l.length → Q () { s with heap := h' }) →
      wpAny (model P w) A (forIn l PUnit.unit (addStep a b each ep0)) Q E s
  | [], U, m, s, R, he, R2, hg, hl, hQ => by
    rw [List.forIn_nil]
    refine wpAny_pure ?_
    exact hQ s.heap U m (Heap.SameBut.refl _ _) R2 (fun k => by simp) (Nat.le_add_right _ _)
  | (hh, x) :: l, U, m, s, R, he, R2, hg, hl, hQ => by
    rw [List.length_cons] at hl
    obtain ⟨k, tk, e1, e2⟩ := hg (hh, x) (by simp)
    have e1 : x = Value.int k tk := e1
    have e2 : hh = hashInt k := e2
    subst e1 e2
    rw [List.forIn_cons]
    refine wpAny_bind ?_
    refine wpAny_bind (wpAny_holding (setR_add_hashed R2 (by omega) fun h' sb r => ?_))
    have keepb : ∀ o, s.heap.get? b = some o → h'.get? b = some o := fun o z => (sb.2 b (Ne.symm hne)).trans z
    have keepb2 : h'.get? b = s.heap.get? b := sb.2 b (Ne.symm hne)
    have R' : SetR w h' b S n := R.at keepb
    have he' : ∀ o es ep t, h'.get? b = some o → o.data = .set es ep t → ep = ep0 := fun o es ep t z => he o es ep t (by rw [← keepb2]; exact z)
    refine wpAny_bind (heach _ _ R' he' ?_)
    have R'' := R'
    obtain ⟨o, es, ep, t, ho, hx, hd, g, nd, hm, hb, hf, hsize, hr, hl2⟩ := R''
    refine wpAny_bind (wpAny_setState_of (s := { s with heap := h' }) ho hd hf ?_)
    dsimp only
    refine wp_if_neg (by rw [he' _ _ _ _ ho hd]; simp) ?_
    refine wpAny_pure ?_
    dsimp only
    refine addAll_at heach hne l _ _ { s with heap := h' } R' he' r (fun e h => hg e (List.mem_cons_of_mem _ h)) (by split <;> omega) fun h2 V m' sb2 r2 hV hm' => ?_
    refine hQ h2 V m' (sb.trans sb2) r2 (fun j => ?_) ?_
    · rw [hV, List.map_cons, List.mem_cons, Bool.or_eq_true, decide_eq_true_eq]
      show (U j = true ∨ j = k) ∨ j ∈ l.map keyOf ↔ U j = true ∨ j = k ∨ j ∈ l.map keyOf
      exact or_assoc
    · rw [List.length_cons]; split at hm' <;> omega
end Tw
namespace Tw
open PySem PySem.Spec PyProof.Rows L2
variable {P : Program} {w : World} {A : Around} {E : Value → Shared → Prop} {s : Shared} {a b : Addr} {S U : Int → Bool} {n m : Nat}
theorem setR_n {k : Int} {h : Heap} (R : SetR w h a S n) (h0 : n = 0) : S k = false := by
  obtain ⟨o, es, ep, t, ho, hx, hd, g, nd, hm, hb, hf, hsize, hr, hl⟩ := R
  cases q : S k with
  | false => rfl
  | true =>
    have := (hm k).mp q
    have e : es.toList = [] := List.eq_nil_of_length_eq_zero (by rw [Array.length_toList]; omega)
    rw [e] at this
    cases this
/-- one by one, the loop whole -/
theorem merge_each {Q : Unit → Shared → Prop} {each : Sem Unit} {o : Obj} {es : Array (Int × Value)} {ep : Nat} {t : SetTable} (hne : a ≠ b) (ho : s.heap.get? b = some o) (hd : o.data = .set es ep t)
    (heach : ∀ (s' : Shared) (Q' : Unit → Shared → Prop), SetR w s'.heap b S n → (∀ o es ep' t, s'.heap.get? b = some o → o.data = .set es ep' t → ep' = ep) → Q' () s' → wpAny (model P w) A each Q' E s')
    (R : SetR w s.heap b S n) (R2 : SetR w s.heap a U m) (hl : m + n ≤ 64)
    (hQ : ∀ d h' V m', Heap.SameBut a s.heap h' → SetR w h' a V m' → (∀ k, V k = (U k || S k)) → m' ≤ m + n → Q () { s with heap := h', drawn := d }) :
    wpAny (model P w) A (do
      for (h, x) in ← setWalkUnseen b [a] (some a) do
        let _ ← holding [x] (setAddHashed a x h)
        each
        if (← setState b).2.1 != ep then unsupported "set.changed-during-merge") Q E s := by
  refine wpAny_bind (walkUnseen_at R R2 hne fun d h' ar sb R2' W => ?_)
  have keepb : h'.get? b = s.heap.get? b := sb.2 b (Ne.symm hne)
  have R' : SetR w h' b S n := R.at fun o z => keepb.trans z
  have hlen : ar.toList.length = n := by
    obtain ⟨o, es, ep, t, ho, hx, hd, g, nd, hm, hb, hf, hsize, hr, hl⟩ := R
    have p : (es.toList.map keyOf).Perm (ar.toList.map keyOf) := (List.perm_ext_iff_of_nodup nd W.nd).mpr fun k => (hm k).symm.trans (W.mem k)
    have := p.length_eq
    rw [List.length_map, List.length_map, Array.length_toList] at this
    omega
  have he : ∀ o es ep' t, h'.get? b = some o → o.data = .set es ep' t → ep' = ep := fun o' es' ep' t' z zd => by
    rw [keepb, ho] at z
    obtain rfl := Option.some.inj z
    rw [hd] at zd
    injection zd with _ z2 _
    exact z2.symm
  rw [← Array.forIn_toList]
  refine wpAny_bind ?_
  refine wpAny_mono (Q := Q) ?_ (fun _ _ z => wpAny_pure z) (fun _ _ z => z)
  refine addAll_at heach hne ar.toList U m { s with heap := h', drawn := d } R' he R2' W.good (by rw [hlen]; unfold scanBound; omega) fun h2 V m' sb2 r2 hV hm' => ?_
  refine hQ d h2 V m' (sb.trans sb2) r2 (fun k => ?_) (by omega)
  have := hV k
  rw [← W.mem k] at this
  cases q1 : V k <;> cases q2 : U k <;> cases q3 : S k <;> simp_all
/-- a set merged into one that's new -/
theorem merge_new {Q : Unit → Shared → Prop} {each : Sem Unit} (hne : a ≠ b) (F : Fre w s.heap a) (R : SetR w s.heap b S n) (hn : n ≤ 8) (hk : ∀ k, S k = true → 0 ≤ hashInt k ∧ hashInt k < 100)
    (hQ : ∀ h', Heap.SameBut a s.heap h' → SetR w h' a S n → (n = 0 → Fre w h' a) → Q () { s with heap := h' }) : wpAny (model P w) A (setMerge a b each) Q E s := by
  have R0 := R
  obtain ⟨o, es, ep, t, ho, hx, hd, g, nd, hm, hb, hf, hsize, hr, hl⟩ := R
  unfold setMerge
  refine wp_if_neg (by simpa using hne) ?_
  refine wpAny_bind (wpAny_setState_of ho hd hf ?_)
  dsimp only
  by_cases h0 : es.isEmpty = true
  · refine wp_if_pos h0 ?_
    have hn0 : n = 0 := by
      have : es.size = 0 := by simpa using h0
      omega
    refine wpAny_pure ?_
    have := hQ s.heap (Heap.SameBut.refl _ _) (by rw [hn0]; exact F.setR.congr fun k => setR_n R0 hn0) fun _ => F
    exact this
  refine wp_if_neg h0 ?_
  have hn0 : ¬ n = 0 := fun z => h0 (by rw [z] at hsize; simpa using hsize)
  unfold setRoomFor
  have F2 : s.heap.get? a = some { cls := .type "set", dict := none, data := .set #[] 0 (.fresh 0 0 (!w.params.followText "set-order")) } := F
  refine wpAny_bind (wpAny_mono (Q := fun _ s1 => ∃ (h1 : Heap) (M c ep1 : Nat) (t1 : SetTable), s1 = { s with heap := h1 } ∧ MaskS M c ∧ n ≤ c + 1 ∧ n ≤ M ∧ Heap.SameBut a s.heap h1 ∧ h1.get? a = some { cls := .type "set", dict := none, data := .set #[] ep1 t1 } ∧ t1.mask = M ∧ t1.place = #[] ∧ t1.dummies = #[] ∧ t1.led = !w.params.followText "set-order") ?room (fun _ s1 hq => ?_) (fun _ _ z => z))
  case room =>
    refine wpAny_bind (wpAny_setState_of F2 rfl (by rfl) ?_)
    dsimp only
    unfold SetTable.roomFor
    by_cases c5 : n < 5
    · have c6 : ¬ ((SetTable.fresh 0 0 (!w.params.followText "set-order")).fill + es.size) * 5 ≥ (SetTable.fresh 0 0 (!w.params.followText "set-order")).mask * 3 := by
        show ¬ (0 + es.size) * 5 ≥ 7 * 3
        omega
      rw [if_neg c6]
      refine wpAny_pure ⟨s.heap, 7, 4, 0, _, rfl, mask7, by omega, by omega, Heap.SameBut.refl _ _, F2, rfl, rfl, rfl, rfl⟩
    · have c6 : ((SetTable.fresh 0 0 (!w.params.followText "set-order")).fill + es.size) * 5 ≥ (SetTable.fresh 0 0 (!w.params.followText "set-order")).mask * 3 := by
        show (0 + es.size) * 5 ≥ 7 * 3
        omega
      rw [if_pos c6]
      have hM : ∃ M c, MaskS M c ∧ n ≤ c + 1 ∧ n ≤ M ∧ M < 1000 ∧ SetTable.sizeAbove ((0 + es.size) * 2) = M + 1 := by
        have e := size_tab ((0 + es.size) * 2) (List.mem_range.mpr (by omega))
        rw [if_neg (by omega)] at e
        by_cases c7 : (0 + es.size) * 2 < 16
        · rw [if_pos c7] at e
          exact ⟨15, 8, mask15, by omega, by omega, by omega, e⟩
        · rw [if_neg c7, if_pos (by omega)] at e
          exact ⟨31, 16, mask31, by omega, by omega, by omega, e⟩
      obtain ⟨M, c, hM1, hM2, hM3, hM4, hM5⟩ := hM
      show wpAny _ _ (setRelay a ((0 + es.size) * 2)) _ _ _
      generalize (0 + es.size) * 2 = W at hM5
      unfold setRelay
      refine wpAny_bind (wpAny_setState_of F2 rfl (by rfl) ?_)
      dsimp only
      refine wp_if_neg (by rw [hM5, sizeLine_eq]; omega) ?_
      obtain ⟨t', order, el', pm, r', sz', bd', em', ed', eled, epl⟩ := laid_ok hM1 (SetTable.fresh 0 0 (!w.params.followText "set-order")).finger ((SetTable.fresh 0 0 (!w.params.followText "set-order")).movedTo M) (SetTable.fresh 0 0 (!w.params.followText "set-order")).led (SetTable.fresh 0 0 (!w.params.followText "set-order")).plain (hs := (#[] : Array Int)) (by simp) (by simp)
      have er : (SetTable.fresh 0 0 (!w.params.followText "set-order")).relaid ((#[] : Array (Int × Value)).map (·.1)) W = some (t', order) := by
        unfold SetTable.relaid
        rw [show SetTable.sizeAbove W - 1 = M by omega, Array.map_empty]
        exact el'
      have ho0 : order = #[] := by
        have := pm.length_eq
        simpa using this
      have hes : (order.filterMap ((#[] : Array (Int × Value))[·]?)).size = (#[] : Array (Int × Value)).size := by rw [ho0]; simp
      have hes2 : order.filterMap ((#[] : Array (Int × Value))[·]?) = #[] := by rw [ho0]; simp
      rw [er]
      refine wpAny_bind ?_
      refine wp_if_neg (by rw [hes]; simp) ?_
      refine wpAny_pure ?_
      rw [hes2]
      refine wpAny_storeSet_of F2 rfl ?_ (by rw [sizeLine_eq]; simp)
      refine ⟨_, M, c, _, t', rfl, hM1, hM2, hM3, Heap.SameBut.update s.heap a _, store_at F2 rfl, em', ?_, ed', eled⟩
      have : t'.place.size = 0 := sz'
      simpa using this
  obtain ⟨h1, M, c, ep1, t1, rfl, hM, hc, hnM, sb, e1, em, ep_, ed, el⟩ := hq
  have f1 : t1.fits (#[] : Array (Int × Value)).size = true := by
    unfold SetTable.fits SetTable.fill
    rw [ep_, ed]; simp
  have hled : w.params.followText "set-order" = true ∨ (t1.led && t.led) = true := by
    rw [el]
    rcases hl with z | z
    · exact .inl z
    · cases q : w.params.followText "set-order" with
      | true => exact .inl rfl
      | false => right; rw [z]; rfl
  refine wpAny_bind (wpAny_setState_of (s := { s with heap := h1 }) e1 rfl f1 ?_)
  dsimp only
  have hroad : t1.road t = if (t1.mask == t.mask && t.dummies.isEmpty) = true then .slotForSlot else .clean := by
    unfold SetTable.road SetTable.fill
    rw [ep_, ed]
    rfl
  rw [hroad]
  by_cases c2 : (t1.mask == t.mask && t.dummies.isEmpty) = true
  · rw [if_pos c2]
    dsimp only
    refine wpAny_storeSet_of (s := { s with heap := h1 }) e1 rfl ?_ (fits_of_scanBound hb)
    refine hQ _ (sb.trans (Heap.SameBut.update h1 a _)) ?_ fun z => absurd z hn0
    exact ⟨_, es, _, _, store_at e1 rfl, ⟨rfl, rfl, rfl⟩, rfl, g, nd, hm, hb, hf, hsize, hr, hled⟩
  · rw [if_neg c2]
    dsimp only
    have hall : ∀ h ∈ (es.map (·.1)).toList, 0 ≤ h ∧ h < 100 := fun h hh => by
      rw [Array.toList_map] at hh
      obtain ⟨e, he, rfl⟩ := List.mem_map.mp hh
      obtain ⟨k, tk, e1, e2⟩ := g e he
      rw [e2]
      refine hk k ((hm k).mpr (List.mem_map.mpr ⟨e, he, ?_⟩))
      unfold keyOf; rw [e1]
    obtain ⟨t', order, el', pm, r', sz', bd', em', ed', eled, epl⟩ := laid_ok hM t1.finger t1.moves (t1.led && t.led) (t1.plain && t.plain) (hs := es.map (·.1)) (by rw [Array.size_map]; omega) hall
    rw [Array.size_map] at pm sz'
    rw [em, el']
    have pe : (order.filterMap (es[·]?)).toList.Perm es.toList := by
      rw [Array.toList_filterMap]
      refine (pm.filterMap _).trans ?_
      rw [range_all es es.size (Nat.le_refl _), ← Array.length_toList, List.take_length]
    have hes : (order.filterMap (es[·]?)).size = es.size := by rw [← Array.length_toList, pe.length_eq, Array.length_toList]
    refine wpAny_bind ?_
    refine wp_if_neg (by rw [hes]; simp) ?_
    refine wpAny_pure ?_
    generalize order.filterMap (es[·]?) = es2 at pe hes ⊢
    refine wpAny_storeSet_of (s := { s with heap := h1 }) e1 rfl ?_ (fits_of_scanBound (by rw [hes]; exact hb))
    refine hQ _ (sb.trans (Heap.SameBut.update h1 a _)) ?_ fun z => absurd z hn0
    refine ⟨_, es2, _, t', store_at e1 rfl, ⟨rfl, rfl, rfl⟩, rfl, fun e he => g e (pe.mem_iff.mp he), (pe.map keyOf).nodup_iff.mpr nd, fun k => (hm k).trans (pe.map keyOf).mem_iff.symm, by rw [hes]; exact hb, ?_, by rw [hes]; exact hsize, r', hled.imp id fun z => by rw [eled]; exact z⟩
    unfold SetTable.fits SetTable.fill
    rw [sz', hes, ed', em', beq_self_eq_true, Bool.true_and]
    exact decide_eq_true (by show es.size + 0 ≤ M; omega)
/-- a set merged into one that has members -/
theorem merge_more {Q : Unit → Shared → Prop} {each : Sem Unit} (hne : a ≠ b) (R : SetR w s.heap b S n) (R2 : SetR w s.heap a U m) (hm0 : m ≠ 0) (hn : m + n ≤ 16) (hk : ∀ k, U k = true → 0 ≤ hashInt k ∧ hashInt k < 100)
    (heach : ∀ (ep : Nat) (s' : Shared) (Q' : Unit → Shared → Prop), (∀ o es ep' t, s.heap.get? b = some o → o.data = .set es ep' t → ep' = ep) → SetR w s'.heap b S n → (∀ o es ep' t, s'.heap.get? b = some o → o.data = .set es ep' t → ep' = ep) → Q' () s' → wpAny (model P w) A each Q' E s')
    (hQ : ∀ d h' V m', Heap.SameBut a s.heap h' → SetR w h' a V m' → (∀ k, V k = (U k || S k)) → m' ≤ m + n → Q () { s with heap := h', drawn := d }) : wpAny (model P w) A (setMerge a b each) Q E s := by
  have R0 := R
  obtain ⟨o, es, ep, t, ho, hx, hd, g, nd, hmm, hb, hf, hsize, hr, hl⟩ := R
  unfold setMerge
  refine wp_if_neg (by simpa using hne) ?_
  refine wpAny_bind (wpAny_setState_of ho hd hf ?_)
  dsimp only
  by_cases h0 : es.isEmpty = true
  · refine wp_if_pos h0 ?_
    have hn0 : n = 0 := by
      have : es.size = 0 := by simpa using h0
      omega
    refine wpAny_pure ?_
    have := hQ s.drawn s.heap U m (Heap.SameBut.refl _ _) R2 (fun k => by rw [setR_n R0 hn0, Bool.or_false]) (by omega)
    exact this
  refine wp_if_neg h0 ?_
  refine wpAny_bind (setR_room R2 (by omega) hk fun h1 sb R3 => ?_)
  have keepb : h1.get? b = s.heap.get? b := sb.2 b (Ne.symm hne)
  have ho1 : h1.get? b = some o := keepb.trans ho
  have R1 : SetR w h1 b S n := R0.at fun o z => keepb.trans z
  have R4 := R3
  obtain ⟨o3, es3, ep3, t3, ho3, hx3, hd3, g3, nd3, hm3, hb3, hf3, hsize3, hr3, hl3⟩ := R4
  refine wpAny_bind (wpAny_setState_of (s := { s with heap := h1 }) ho3 hd3 hf3 ?_)
  dsimp only
  have hroad : t3.road t = .oneByOne := by
    unfold SetTable.road
    have : t3.fill ≠ 0 := by
      unfold SetTable.fits at hf3
      unfold SetTable.fill at hf3 ⊢
      simp only [Bool.and_eq_true, beq_iff_eq] at hf3
      omega
    rw [if_pos (by simpa using this)]
  rw [hroad]
  dsimp only
  have heq : ∀ (s' : Shared), s'.heap.get? b = some o → ∀ o' es' ep' t', s'.heap.get? b = some o' → o'.data = .set es' ep' t' → ep' = ep := fun s' h1' o' es' ep' t' z zd => by
    rw [h1'] at z
    obtain rfl := Option.some.inj z
    rw [hd] at zd
    injection zd with _ z2 _
    exact z2.symm
  refine merge_each (s := { s with heap := h1 }) (n := n) (m := m) hne ho1 hd (fun s' Q' r' he' q => heach ep s' Q' (heq s ho) r' he' q) R1 R3 (by omega) fun d h2 V m' sb2 r2 hV hm' => ?_
  exact hQ d h2 V m' (sb.trans sb2) r2 hV hm'
end Tw
namespace Tw
open PySem PySem.Spec PyProof.Rows L2
variable {P : Program} {w : World} {A : Around} {E : Value → Shared → Prop} {s : Shared} {a b d : Addr} {S U : Int → Bool} {n m : Nat}
theorem hash_small {k : Int} (h0 : 0 ≤ k) (h1 : k < 100) : hashInt k = k := by
  have : ∀ i ∈ List.range 100, hashInt (i : Int) = (i : Int) := by decide +kernel
  have := this k.toNat (List.mem_range.mpr (by omega))
  rwa [Int.toNat_of_nonneg h0] at this
theorem nodup_at {l : List Int} (h : l.Nodup) {i j : Nat} {k : Int} (hi : l[i]? = some k) (hl : j < i) (hj : l[j]? = some k) : False := by
  obtain ⟨h1, rfl⟩ := List.getElem?_eq_some_iff.mp hi
  obtain ⟨h2, e⟩ := List.getElem?_eq_some_iff.mp hj
  exact (List.pairwise_iff_getElem.mp h j i h2 h1 hl) e
/-- the keys of a dict put into a set, one by one -/
theorem fromDict_at {Q : Unit → Shared → Prop} {o : Obj} {es : Array DictEntry} {ep : Nat} {ns : List Int} (hne : a ≠ d) (ho : s.heap.get? d = some o) (hd : o.data = .dict es ep)
    (hes : es.size = ns.length) (hkey : ∀ (i : Nat) (e : DictEntry), es[i]? = some e → ∃ k tk, ns[i]? = some k ∧ e.key = Value.int k tk ∧ e.hash = hashInt k) (hnd : ns.Nodup) (hns : ns.length ≤ 16) (hk : ∀ k ∈ ns, 0 ≤ k ∧ k < 100)
    (hsys : (d == sysModules) = false) (hsd : s.TypeIs (.ref d) "dict") (R : SetR w s.heap a (fun _ => false) 0)
    (hQ : ∀ h', Heap.SameBut a s.heap h' → SetR w h' a (fun j => decide (j ∈ ns)) ns.length → Q () { s with heap := h' }) :
    wpAny (model P w) A (Builtin.Frozenset.updateFrom "set.__init__" a (.ref d)) Q E s := by
  unfold Builtin.Frozenset.updateFrom Builtin.Frozenset.isAnySet
  have f1 := PySem.F.sub_dict_set
  have f2 := PySem.F.sub_dict_frozenset
  refine wpAny_bind ?_
  refine wpAny_bind (wpAny_isInstance (b := false) hsd f1 ?_)
  refine wpAny_isInstance (b := false) hsd f2 ?_
  refine wp_if_neg (by decide) ?_
  refine wpAny_bind (wpAny_typeOf hsd ?_)
  refine wp_if_pos (by decide) ?_
  refine wpAny_bind (wpAny_rule ?_)
  refine wpAny_bind (wpAny_of_eq (a := d) rfl ?_)
  refine wp_if_neg (by rw [hsys]; decide) ?_
  refine wpAny_bind (wpAny_dictEpoch ho hd ?_)
  refine wpAny_bind (wpAny_dictEntries ho hd ?_)
  refine wpAny_bind (setR_room R (by omega) (fun k z => by cases z) fun h1 sb R1 => ?_)
  have ho1 : h1.get? d = some o := (sb.2 d (Ne.symm hne)).trans ho
  refine wpAny_bind (wpAny_dictEntries (s := { s with heap := h1 }) ho1 hd ?_)
  refine wpAny_bind ?_
  refine TI.forIn_rng _ (fun rest _ s' => ∃ i h', rest = List.range' i (es.size - i) ∧ i ≤ es.size ∧ s' = { s with heap := h' } ∧ Heap.SameBut a s.heap h' ∧ SetR w h' a (fun j => decide (j ∈ ns.take i)) i) _ ?_ ?_ _ ⟨0, h1, by simp, Nat.zero_le _, rfl, sb, R1.congr fun k => by simp⟩
  · rintro x rest c s' ⟨i, h', hr, hi, rfl, sb', R'⟩
    have hlt : i < es.size := by
      rcases Nat.lt_or_ge i es.size with h | h
      · exact h
      · rw [Nat.sub_eq_zero_of_le h] at hr; simp at hr
    obtain ⟨rfl, hrest⟩ : x = i ∧ rest = List.range' (i + 1) (es.size - (i + 1)) := by
      have e : es.size - i = (es.size - (i + 1)) + 1 := by omega
      rw [e, List.range'_succ] at hr
      injection hr with h1 h2
      exact ⟨h1, h2⟩
    have ho' : h'.get? d = some o := (sb'.2 d (Ne.symm hne)).trans ho
    refine wpAny_bind (wpAny_dictEntries (s := { s with heap := h' }) ho' hd ?_)
    have he : es[x]? = some es[x] := Array.getElem?_eq_getElem hlt
    obtain ⟨k, tk, ek, e1, e2⟩ := hkey x _ he
    rw [he]
    dsimp only
    rw [e1, e2]
    have hkn : k ∉ ns.take x := fun z => by
      obtain ⟨j, hj⟩ := List.mem_iff_getElem?.mp z
      rw [List.getElem?_take] at hj
      split at hj
      · rename_i hjx
        exact nodup_at hnd ek (by omega) hj
      · cases hj
    refine wpAny_bind (wpAny_holding (setR_add_hashed R' (by unfold scanBound; omega) fun h2 sb2 R2 => ?_))
    have ho2 : h2.get? d = some o := (sb2.2 d (Ne.symm hne)).trans ho'
    refine wpAny_bind (wpAny_dictEpoch (s := { s with heap := h2 }) ho2 hd ?_)
    refine wp_if_neg (by simp) ?_
    refine wpAny_pure ⟨x + 1, h2, hrest, hlt, rfl, sb'.trans sb2, ?_⟩
    rw [if_neg (by simpa using hkn)] at R2
    refine R2.congr fun j => ?_
    rw [take_more ek]
    simp
  · rintro c s' ⟨i, h', hr, hi, rfl, sb', R'⟩
    have hin : i = es.size := by
      rcases Nat.lt_or_ge i es.size with h | h
      · have e : es.size - i = (es.size - (i + 1)) + 1 := by omega
        rw [e, List.range'_succ] at hr; exact nomatch hr
      · exact Nat.le_antisymm hi h
    rw [hin, hes, List.take_length] at R'
    exact wpAny_pure (hQ h' sb' R')
end Tw
namespace Tw
open PySem PySem.Spec PyProof.Rows L2
variable {P : Program} {w : World} {A : Around} {E : Value → Shared → Prop} {s : Shared} {a b d : Addr} {S U : Int → Bool} {n m : Nat}
/-- set(d) -/
theorem call_set_dict {o : Obj} {es : Array DictEntry} {ep : Nat} {ns : List Int} {Q : Value → Shared → Prop} (hex : o.ExactDict) (ho : s.heap.get? d = some o) (hd : o.data = .dict es ep)
    (hes : es.size = ns.length) (hkey : ∀ (i : Nat) (e : DictEntry), es[i]? = some e → ∃ k tk, ns[i]? = some k ∧ e.key = Value.int k tk ∧ e.hash = hashInt k) (hnd : ns.Nodup) (hns : ns.length ≤ 16) (hk : ∀ k ∈ ns, 0 ≤ k ∧ k < 100)
    (hsys : (d == sysModules) = false)
    (h : ∀ h', SetR w h' s.heap.objs.size (fun j => decide (j ∈ ns)) ns.length → (∀ b o, s.heap.get? b = some o → h'.get? b = some o) → Q (.ref s.heap.objs.size) { s with heap := h' }) :
    wpAny (model P w) A (call (.type "set") [.ref d]) Q E s := by
  obtain ⟨c, tl, hmro⟩ := F.called_set.mro
  have hmade := F.called_set.made
  have hsub := F.called_set.sub
  refine wpAny_call (codeAny_of_tree ?_)
  show wpAny _ _ (callAny (.type "set") _) _ _ _
  refine wpAny_pure ⟨Code.quiet_builtin _ (by decide +kernel), codeAny_builtin F.entry_type_call ?_⟩
  rw [Around.under_plain (weight_type_call_type "set" [.ref d] []) rfl]
  have h1 := F.called_set.notType
  have h2 := F.called_set.canCreate
  have hct := F.typeCall_set_1 (.ref d)
  repeat (any_goals (first | assumption | wp_step))
  refine codeAny_mono (code_set_led1 (.ref d) (E := E) (Q₁ := fun obj s₁ => obj = .ref s.heap.objs.size ∧ s₁ = { s with heap := s.heap.push { cls := .type "set", dict := none, data := .set #[] 0 (.fresh 0 0 (!w.params.followText "set-order")) } }) ⟨rfl, rfl⟩) fun r s₁ hr => ?_
  cases r with
  | error e => exact hr
  | ok fl =>
    cases fl with
    | ret obj =>
      obtain ⟨rfl, rfl⟩ := hr
      have hS : (s.heap.push { cls := .type "set", dict := none, data := .set #[] 0 (.fresh 0 0 (!w.params.followText "set-order")) }).get? s.heap.objs.size = some { cls := .type "set", dict := none, data := .set #[] 0 (.fresh 0 0 (!w.params.followText "set-order")) } := Heap.get?_push_size _ rfl
      have hT : Shared.TypeIs { s with heap := s.heap.push { cls := .type "set", dict := none, data := .set #[] 0 (.fresh 0 0 (!w.params.followText "set-order")) } } (.ref s.heap.objs.size) "set" := ⟨_, hS, rfl⟩
      have hli := F.called_set.init.lookup
      have hbi := F.called_set.init.bind (.ref s.heap.objs.size)
      repeat (any_goals (first | assumption | wp_step))
      refine codeAny_mono (codeAny_call_builtin (R := wants (fun r s₂ => r = .none ∧ ∃ h', s₂ = { s with heap := h' } ∧ SetR w h' s.heap.objs.size (fun j => decide (j ∈ ns)) ns.length ∧
          (∀ b o, s.heap.get? b = some o → h'.get? b = some o)) E) F.called_set.init.plain F.entry_set_init (check_set_init_1 hT ?_)) fun r₂ s₂ hr₂ => ?_
      · have ho' : (s.heap.push { cls := .type "set", dict := none, data := .set #[] 0 (.fresh 0 0 (!w.params.followText "set-order")) }).get? d = some o := Heap.get?_push_of_some _ ho
        have hne : s.heap.objs.size ≠ d := Nat.ne_of_gt (Heap.lt_size ho)
        unfold Builtin.«set.__init__» noKeywords
        generalize hPI : Builtin.Frozenset.updateFrom = PI
        wp_walk
        subst hPI
        refine fromDict_at hne ho' hd hes hkey hnd hns hk hsys ⟨o, ho', hex.1⟩ (setR_fresh w) fun h' sb R => ?_
        refine wpAny_pure ⟨rfl, h', rfl, R, fun b u e => ?_⟩
        exact (sb.2 b (Nat.ne_of_lt (Heap.lt_size e))).trans (Heap.get?_push_of_some _ e)
      · cases r₂ with
        | error e => exact hr₂
        | ok fl₂ =>
          cases fl₂ with
          | ret r =>
            obtain ⟨rfl, h', rfl, hS', hk'⟩ := hr₂
            repeat (any_goals (first | assumption | wp_step))
            exact h _ hS' hk'
          | _ => exact hr₂.elim
    | _ => exact hr.elim
end Tw
namespace Tw
open PySem PySem.Spec PyProof.Rows L2
variable {P : Program} {w : World} {A : Around} {E : Value → Shared → Prop} {s : Shared} {a b d : Addr} {S U : Int → Bool} {n m : Nat}
theorem SetR.typeIs {s : Shared} (R : SetR w s.heap a S n) : s.TypeIs (.ref a) "set" := by
  obtain ⟨o, es, ep, t, ho, hx, _⟩ := R
  exact ⟨o, ho, hx.1⟩
theorem entry_set_or : entryFor table "set.__or__" = some Builtin.«frozenset.__or__» :=
  entryFor_alias (id' := "frozenset.__or__") (by kernel_rfl) rfl (by decide +kernel) (by kernel_rfl)
/-- l | r -/
theorem union_at {Q : Value → Shared → Prop} (hne : a ≠ b) (R : SetR w s.heap a S n) (R2 : SetR w s.heap b U m) (hn : n ≤ 8) (hm : m ≤ 8) (hk : ∀ k, S k = true → 0 ≤ hashInt k ∧ hashInt k < 100) (hk2 : ∀ k, U k = true → 0 ≤ hashInt k ∧ hashInt k < 100)
    (hQ : ∀ d h' V m', SetR w h' s.heap.objs.size V m' → (∀ k, V k = (S k || U k)) → m' ≤ n + m → (∀ b o, s.heap.get? b = some o → h'.get? b = some o) → Q (.ref s.heap.objs.size) { s with heap := h', drawn := d }) :
    wpAny (model P w) A (binaryOp .BitOr (.ref a) (.ref b)) Q E s := by
  have ta := SetR.typeIs R
  have tb := SetR.typeIs R2
  refine wpAny_binaryOp_same (op := .BitOr) ta tb PySem.F.fills_set_or PySem.F.slot_set_or (wpAny_call_entry PySem.F.slot_set_or ta entry_set_or ?_ (PySem.F.args_set_or_2 _ _))
  unfold Builtin.«frozenset.__or__»
  refine wpAny_bind (wpAny_of_eq (a := (Value.ref a, Value.ref b)) rfl ?_)
  dsimp only
  refine wpAny_bind ?_
  refine wpAny_bind ?_
  refine wpAny_bind (wpAny_isInstance (b := true) ta sub_set_self ?_)
  refine wpAny_pure ?_
  refine wpAny_bind (wpAny_isInstance (b := true) tb sub_set_self ?_)
  refine wpAny_pure ?_
  refine wp_if_neg (by decide) ?_
  refine wpAny_bind (wpAny_of_eq (a := a) rfl ?_)
  refine wpAny_bind ?_
  refine wpAny_bind (m := Builtin.Frozenset.copyOf a) ?_
  unfold Builtin.Frozenset.copyOf Builtin.Frozenset.baseOf
  refine wpAny_bind ?_
  refine wpAny_bind (wpAny_isInstance (b := true) ta sub_set_self ?_)
  refine wpAny_pure ?_
  rw [if_pos rfl]
  refine wpAny_bind ?_
  unfold newSet
  refine wpAny_bind (wpAny_byText ?_)
  dsimp only
  simp only [newObj]
  refine wpAny_bind (wpAny_alloc (wpAny_pure ?_))
  refine wpAny_bind (wpAny_of_eq (a := s.heap.objs.size) rfl ?_)
  have F0 : Fre w (s.heap.push { cls := .type "set", dict := none, data := .set #[] 0 (.fresh 0 0 (!w.params.followText "set-order")) }) s.heap.objs.size := Heap.get?_push_size _ rfl
  have k0 : ∀ b o, s.heap.get? b = some o → (s.heap.push { cls := .type "set", dict := none, data := .set #[] 0 (.fresh 0 0 (!w.params.followText "set-order")) }).get? b = some o := fun b o e => Heap.get?_push_of_some _ e
  have na : s.heap.objs.size ≠ a := Nat.ne_of_gt R.lt
  have nb : s.heap.objs.size ≠ b := Nat.ne_of_gt R2.lt
  generalize hp0 : s.heap.push { cls := .type "set", dict := none, data := .set #[] 0 (.fresh 0 0 (!w.params.followText "set-order")) } = h0 at F0 k0 ⊢
  have Ra : SetR w h0 a S n := R.at fun o e => k0 a o e
  have Rb : SetR w h0 b U m := R2.at fun o e => k0 b o e
  refine wpAny_bind (merge_new (s := { s with heap := h0 }) na F0 Ra hn hk fun h1 sb Rr Fr => ?_)
  refine wpAny_pure ?_
  have Rb1 : SetR w h1 b U m := Rb.at fun o e => (sb.2 b (Ne.symm nb)).trans e
  have keep1 : ∀ c o, s.heap.get? c = some o → h1.get? c = some o := fun c o e => (sb.2 c (Nat.ne_of_lt (Heap.lt_size e))).trans (k0 c o e)
  simp only [Bool.false_eq_true, if_false]
  refine wp_if_pos (by simpa using Ne.symm hne) ?_
  have tb1 : Shared.TypeIs { s with heap := h1 } (.ref b) "set" := SetR.typeIs Rb1
  refine wpAny_bind (wpAny_of_eq (a := s.heap.objs.size) rfl ?_)
  refine wpAny_bind (wpAny_holding ?_)
  unfold Builtin.Frozenset.updateFrom Builtin.Frozenset.isAnySet
  refine wpAny_bind ?_
  refine wpAny_bind (wpAny_isInstance (b := true) tb1 sub_set_self ?_)
  refine wpAny_pure ?_
  refine wp_if_pos rfl ?_
  refine wpAny_bind (wpAny_of_eq (a := b) rfl ?_)
  unfold Builtin.Frozenset.merge
  obtain ⟨o, es, ep, t, ho, hx, hd, g, nd, hmm, hb, hf, hsize, hr, hl⟩ := id Rb1
  refine wpAny_bind (m := setEpoch b) ?_
  unfold setEpoch
  refine wpAny_bind (wpAny_setState_of (s := { s with heap := h1 }) ho hd hf ?_)
  refine wpAny_pure ?_
  have fin : ∀ d h2 V m', Heap.SameBut s.heap.objs.size h1 h2 → SetR w h2 s.heap.objs.size V m' → (∀ k, V k = (S k || U k)) → m' ≤ n + m → Q (.ref s.heap.objs.size) { s with heap := h2, drawn := d } := fun d h2 V m' sb2 r hV hm' =>
    hQ d h2 V m' r hV hm' fun c o e => (sb2.2 c (Nat.ne_of_lt (Heap.lt_size e))).trans (keep1 c o e)
  by_cases hn0 : n = 0
  · refine merge_new (s := { s with heap := h1 }) nb (Fr hn0) Rb1 hm hk2 fun h2 sb2 R3 _ => ?_
    refine wpAny_pure (wpAny_pure ⟨_, rfl, fun z => (nomatch z), ?_⟩)
    have := fin s.drawn h2 U m sb2 R3 (fun k => by rw [setR_n R hn0, Bool.false_or]) (by omega)
    exact this
  · refine merge_more (s := { s with heap := h1 }) nb Rb1 Rr hn0 (by omega) hk (fun ep' s' Q' h0 r' he' q => ?_) fun d h2 V m' sb2 R3 hV hm' => ?_
    · have e1 : ep = ep' := h0 o es ep t ho hd
      obtain ⟨o', es', ep2, t', ho', hx', hd', g', nd', hmm', hb', hf', _⟩ := r'
      unfold Builtin.Frozenset.unchanged setEpoch
      refine wpAny_bind ?_
      refine wpAny_bind (wpAny_setState_of ho' hd' hf' ?_)
      refine wpAny_pure ?_
      refine wp_if_neg ?_ (wpAny_pure q)
      rw [he' o' es' ep2 t' ho' hd', e1]; simp
    · refine wpAny_pure (wpAny_pure ⟨_, rfl, fun z => (nomatch z), ?_⟩)
      exact fin d h2 V m' sb2 R3 hV hm'
end Tw
namespace Tw
open PySem PySem.Spec PyProof.Rows L2
variable {X : Cx}
/-! ### set(d), a | b as rules -/
def rSetD (w : World) : List V → Hp → VK → Prop := fun xs H Q => ∃ (d : Addr) (kvs : List (Key × V)) (ns : List Int), xs = [.ref d] ∧ H d = some (.dK kvs) ∧ kvs.map (·.1) = ns.map Sum.inl ∧ ns.length ≤ 8 ∧ (∀ k ∈ ns, 0 ≤ k ∧ k < 100) ∧
  ∀ p, H p = none → Q (.ref p) (upd H p (SetO w p (fun j => decide (j ∈ ns)) ns.length))
theorem cr_setD (hcalm : X.calm = true) : CallR X (.type "set") (rSetD X.w) := by
  intro pins s σ H xs us Q I r h
  obtain ⟨d, kvs, ns, rfl, ha, hk, hl, hb, q⟩ := h
  rw [Vals.ref1 r]
  obtain ⟨z, lo, vs, rel, o, es, ep, ho, hex, hd, hko, hp, hnd⟩ := dk_of I.hok ha
  have hkeys : vs.map (·.1) = ns.map Sum.inl := rel.keys.symm.trans hk
  have hlen : vs.length = ns.length := by
    have e := congrArg List.length hkeys
    rw [List.length_map, List.length_map] at e
    exact e
  have hes : es.size = ns.length := by rw [← hlen, ← hp.length, Array.length_toList]
  have hn : ns.Nodup := by
    rw [hkeys] at hnd
    exact (List.pairwise_map.mp hnd).imp fun h z => h (by rw [z])
  refine call_set_dict hex ho hd hes (fun i e he => ?_) hn (by omega) hb lo fun h' R keep => ?_
  · have hi : i < vs.length := by rw [hlen, ← hes]; exact (Array.getElem?_eq_some_iff.mp he).1
    obtain ⟨k, v, hkv⟩ : ∃ k v, vs[i]? = some (k, v) := ⟨vs[i].1, vs[i].2, by rw [List.getElem?_eq_getElem hi]⟩
    obtain ⟨h1, h2⟩ := hp.get? (i := i) (e := e) (k := k) (v := v) (by rw [Array.getElem?_toList]; exact he) hkv
    have e3 : (vs.map (·.1))[i]? = some k := by rw [List.getElem?_map, hkv]; rfl
    rw [hkeys, List.getElem?_map] at e3
    cases e4 : ns[i]? with
    | none => rw [e4] at e3; cases e3
    | some y =>
      rw [e4] at e3
      have e5 : Sum.inl y = k := Option.some.inj e3
      subst e5
      obtain ⟨k', hk', hh⟩ := hko e (by
        obtain ⟨hh1, hh2⟩ := Array.getElem?_eq_some_iff.mp he
        rw [← hh2]; exact Array.getElem_mem hh1)
      have ekk : k' = Sum.inl y := (mixKind X.prog X.w).inj _ _ _ hk' h1
      rw [ekk] at hh
      rcases keyIs_shape (show keyIs (Sum.inl y) e.key = true from h1) with ⟨j, t, ek, ev⟩ | ⟨z, t, ek, ev⟩
      · cases ek
        exact ⟨y, t, rfl, ev, hh⟩
      · cases ek
  · have hnw : H s.heap.objs.size = none := I.hok.fresh (Nat.le_refl _)
    exact ⟨.ref _, upd H s.heap.objs.size (SetO X.w s.heap.objs.size (fun j => decide (j ∈ ns)) ns.length), I.laid (t' := s.toks) keep (Nat.le_refl _) (setO_new R), rfl, q _ hnw⟩
def rUnion (w : World) : V → V → Hp → VK → Prop := fun x y H Q => ∃ (a b : Addr) (S U : Int → Bool) (n m : Nat), x = .ref a ∧ y = .ref b ∧ a ≠ b ∧ H a = some (SetO w a S n) ∧ H b = some (SetO w b U m) ∧ n ≤ 8 ∧ m ≤ 8 ∧ (∀ k, S k = true → 0 ≤ k ∧ k < 100) ∧ (∀ k, U k = true → 0 ≤ k ∧ k < 100) ∧
  ∀ (p : Addr) (V' : Int → Bool) (m' : Nat), H p = none → (∀ k, V' k = (S k || U k)) → m' ≤ n + m → Q (.ref p) (upd H p (SetO w p V' m'))
theorem op_union : OpR X (binaryOp .BitOr) (rUnion X.w) := by
  intro pins s σ H x y v u Q I rx ry h
  obtain ⟨a, b, S, U, n, m, rfl, rfl, hne, ha, hb, hn, hm, hS, hU, q⟩ := h
  cases rx
  cases ry
  have R := setO_get I ha
  have R2 := setO_get I hb
  refine union_at hne R R2 hn hm (fun k z => ?_) (fun k z => ?_) fun d h' V' m' R3 hV hm' keep => ?_
  · obtain ⟨h0, h1⟩ := hS k z
    rw [hash_small h0 h1]; exact ⟨h0, h1⟩
  · obtain ⟨h0, h1⟩ := hU k z
    rw [hash_small h0 h1]; exact ⟨h0, h1⟩
  have hnw : H s.heap.objs.size = none := I.hok.fresh (Nat.le_refl _)
  have J : Inv X pins σ (upd H s.heap.objs.size (SetO X.w s.heap.objs.size V' m')) { s with heap := h', gens := s.gens, drawn := d, toks := s.toks } :=
    I.call (ch := []) (Un.laid keep (Nat.le_refl _) hnw) (I.hok.laid keep (Nat.le_refl _) (setO_new R3)) I.bare (fun _ z => nomatch z)
  exact ⟨.ref _, _, J, rfl, q _ V' m' hnw hV hm'⟩
/-! ### the ids of two tables, in order -/
open Vauowd (insertNum idsOf)
theorem ins_mem (a x : Nat) : ∀ l, x ∈ insertNum a l ↔ x = a ∨ x ∈ l
  | [] => by unfold insertNum; simp
  | b :: r => by
    unfold insertNum
    split
    · simp
    split
    · rename_i h; subst h; simp
    · rw [List.mem_cons, List.mem_cons, ins_mem a x r]
      constructor
      · rintro (h | h | h)
        · exact .inr (.inl h)
        · exact .inl h
        · exact .inr (.inr h)
      · rintro (h | h | h)
        · exact .inr (.inl h)
        · exact .inl h
        · exact .inr (.inr h)
theorem ins_ris (a : Nat) : ∀ l : List Nat, l.Pairwise (· < ·) → (insertNum a l).Pairwise (· < ·)
  | [], _ => by unfold insertNum; simp
  | b :: r, h => by
    obtain ⟨h1, h2⟩ := List.pairwise_cons.mp h
    unfold insertNum
    split
    · rename_i c
      refine List.pairwise_cons.mpr ⟨fun y hy => ?_, h⟩
      rcases List.mem_cons.mp hy with rfl | hy
      · exact c
      · exact Nat.lt_trans c (h1 y hy)
    split
    · exact h
    · rename_i c1 c2
      refine List.pairwise_cons.mpr ⟨fun y hy => ?_, ins_ris a r h2⟩
      rcases (ins_mem a y r).mp hy with rfl | hy
      · omega
      · exact h1 y hy
theorem ids_mem (x : Nat) : ∀ (l : List VauowBase.Row) (z : List Nat), x ∈ idsOf l z ↔ x ∈ z ∨ ∃ r ∈ l, r.id = x
  | [], z => by show x ∈ z ↔ _; simp
  | r :: l, z => by
    show x ∈ idsOf l (insertNum r.id z) ↔ _
    rw [ids_mem x l, ins_mem]
    constructor
    · rintro ((h | h) | ⟨q, h1, h2⟩)
      · exact .inr ⟨r, by simp, h.symm⟩
      · exact .inl h
      · exact .inr ⟨q, by simp [h1], h2⟩
    · rintro (h | ⟨q, h1, h2⟩)
      · exact .inl (.inr h)
      · rcases List.mem_cons.mp h1 with rfl | h1
        · exact .inl (.inl h2.symm)
        · exact .inr ⟨q, h1, h2⟩
theorem ids_ris : ∀ (l : List VauowBase.Row) (z : List Nat), z.Pairwise (· < ·) → (idsOf l z).Pairwise (· < ·)
  | [], z, h => h
  | r :: l, z, h => ids_ris l _ (ins_ris r.id z h)
def ids2 (rs1 rs2 : List VauowBase.Row) : List Nat := idsOf rs2 (idsOf rs1 [])
theorem ids2_mem {x : Nat} {rs1 rs2 : List VauowBase.Row} : x ∈ ids2 rs1 rs2 ↔ (∃ r ∈ rs1, r.id = x) ∨ ∃ r ∈ rs2, r.id = x := by
  unfold ids2
  rw [ids_mem, ids_mem]; simp
theorem ids2_ris (rs1 rs2 : List VauowBase.Row) : (ids2 rs1 rs2).Pairwise (· < ·) := ids_ris _ _ (ids_ris _ _ List.Pairwise.nil)
theorem ris_eq : ∀ {l m : List Int}, l.Pairwise (· < ·) → m.Pairwise (· < ·) → (∀ x, x ∈ l ↔ x ∈ m) → l = m := by
  intro l m hl hm h
  refine List.Perm.eq_of_pairwise (le := (· < ·)) (fun a b _ _ h1 h2 => absurd h1 (Int.not_lt.mpr (Int.le_of_lt h2))) hl hm ?_
  exact (List.perm_ext_iff_of_nodup (hl.imp fun h => Int.ne_of_lt h) (hm.imp fun h => Int.ne_of_lt h)).mpr h
/-- a table that can be held: few rows, ids told -/
structure TI8 (rs : List VauowBase.Row) : Prop where
  len : rs.length ≤ 8
  ids : ∀ r ∈ rs, 1 ≤ r.id ∧ r.id ≤ 99
theorem TO.ti {n : Nat} {rs : List VauowBase.Row} (h : TO n rs) : TI8 rs := ⟨h.len, fun r hr => ⟨(h.rows r hr).lo, (h.rows r hr).hi⟩⟩
/-- sorted(set(a) | set(b)) -/
def tKeys (ta tb : TE) : TE := fun σ H Q => ta σ H fun x H1 => ∃ (d1 : Addr) (rs1 : List VauowBase.Row), x = .ref d1 ∧ TabD H1 d1 rs1 ∧ TI8 rs1 ∧ ∀ H2, Same H1 H2 →
  tb σ H2 fun y H3 => ∃ (d2 : Addr) (rs2 : List VauowBase.Row), H3 = H2 ∧ y = .ref d2 ∧ TabD H2 d2 rs2 ∧ TI8 rs2 ∧ ∀ (p : Addr) (H4 : Hp), H1 p = none → Same H1 H4 → H4 p = some (.lst ((ids2 rs1 rs2).map fun (i : Nat) => V.int (i : Int))) → Q (.ref p) H4
end Tw
namespace Tw
open PySem PySem.Spec PyProof.Rows L2
open Vauowd (insertNum idsOf)
variable {X : Cx}
def tMo (t : TE) : TE := fun σ H Q => ∃ Q0 : VK, t σ H Q0 ∧ ∀ x H', Q0 x H' → Q x H'
theorem pe_mo {e : Expr} {t : TE} (h : PE X e t) : PE X e (tMo t) :=
  ⟨fun pins s σ H Q I ⟨Q0, h0, hm⟩ => thn (h.run pins s σ H Q0 I h0) fun v s1 ⟨x, H1, I1, r1, q⟩ => ⟨x, H1, I1, r1, hm _ _ q⟩⟩
theorem pe_of {e : Expr} {t t' : TE} (h : PE X e t) (hi : ∀ σ H Q, t' σ H Q → t σ H Q) : PE X e t' := ⟨fun pins s σ H Q I q => h.run pins s σ H Q I (hi σ H Q q)⟩
theorem setKeys {H H1 : Hp} {w : World} {d : Addr} {rs : List VauowBase.Row} (h : TabD H d rs) (t : TI8 rs) :
    ∃ (kvs : List (Key × V)), H d = some (.dK kvs) ∧ kvs.map (·.1) = (rs.map fun r => (r.id : Int)).map Sum.inl ∧ (rs.map fun r => (r.id : Int)).length ≤ 8 ∧ (∀ k ∈ rs.map fun r => (r.id : Int), 0 ≤ k ∧ k < 100) := by
  obtain ⟨kvs, e, p⟩ := h.ex
  refine ⟨kvs, e, keys_ids p, by rw [List.length_map]; exact t.len, fun k hk => ?_⟩
  obtain ⟨r, hr, rfl⟩ := List.mem_map.mp hk
  have := t.ids r hr
  omega
theorem pe_keys {a b : Expr} {ta tb : TE} {p1 p2 p3 p4 p5 p6 p7 : Pos} (ha : PE X a ta) (hb : PE X b tb) (hm : X.mg "sorted" = none) (hm2 : X.mg "set" = none) (hg : Gl X "sorted" := by rfl) (hg2 : Gl X "set" := by rfl) (hc : X.calm = true := by rfl)
    (na : starEach [a] X.env = (false, eval a X.env) :: starEach [] X.env := by rfl) (nb : starEach [b] X.env = (false, eval b X.env) :: starEach [] X.env := by rfl) :
    PE X (.Call (.Name "sorted" p1) [.BinOp (.Call (.Name "set" p2) [a] [] p3) .BitOr (.Call (.Name "set" p4) [b] [] p5) p6] [] p7) (tKeys ta tb) := by
  refine pe_of (pe_callB (cr_sortedSet hc) hg hm (by decide +kernel) (pa_cons (pe_op op_union (pe_callTy (cr_setD hc) hg2 hm2 (by decide +kernel) (pa_cons (pe_mo ha) pa_nil na) (by decide) (by decide) na) (pe_callTy (cr_setD hc) hg2 hm2 (by decide +kernel) (pa_cons (pe_mo hb) pa_nil nb) (by decide) (by decide) nb)) pa_nil)) ?_
  intro σ H Q h
  refine ⟨_, h, ?_⟩
  rintro x H1 ⟨d1, rs1, rfl, hd1, t1, h2⟩
  obtain ⟨kvs1, e1, k1, l1, b1⟩ := setKeys (H1 := H1) (w := X.w) hd1 t1
  refine ⟨d1, kvs1, _, rfl, e1, k1, l1, b1, fun p1 n1 => ?_⟩
  obtain ⟨s1, hp1⟩ := al2 (o := SetO X.w p1 (fun j => decide (j ∈ rs1.map fun r => (r.id : Int))) (rs1.map fun r => (r.id : Int)).length) n1
  generalize upd H1 p1 (SetO X.w p1 (fun j => decide (j ∈ rs1.map fun r => (r.id : Int))) (rs1.map fun r => (r.id : Int)).length) = H2 at s1 hp1 ⊢
  refine ⟨_, h2 H2 s1, ?_⟩
  rintro y H3 ⟨d2, rs2, rfl, rfl, hd2, t2, q⟩
  obtain ⟨kvs2, e2, k2, l2, b2⟩ := setKeys (H1 := H3) (w := X.w) hd2 t2
  refine ⟨d2, kvs2, _, rfl, e2, k2, l2, b2, fun p2 n2 => ?_⟩
  obtain ⟨s2, hp2⟩ := al2 (o := SetO X.w p2 (fun j => decide (j ∈ rs2.map fun r => (r.id : Int))) (rs2.map fun r => (r.id : Int)).length) n2
  generalize upd H3 p2 (SetO X.w p2 (fun j => decide (j ∈ rs2.map fun r => (r.id : Int))) (rs2.map fun r => (r.id : Int)).length) = H4 at s2 hp2 ⊢
  refine ⟨p1, p2, _, _, _, _, rfl, rfl, ne_of_none hp1 n2, s2 _ _ hp1, hp2, l1, l2, fun k z => b1 k (by simpa using z), fun k z => b2 k (by simpa using z), fun p3 V' m' n3 hV hm' => ?_⟩
  obtain ⟨s3, hp3⟩ := al2 (o := SetO X.w p3 V' m') n3
  generalize upd H4 p3 (SetO X.w p3 V' m') = H5 at s3 hp3 ⊢
  refine ⟨p3, V', m', rfl, hp3, by omega, fun ns p4 h1 h2 h3 n4 => ?_⟩
  have en : ns = (ids2 rs1 rs2).map fun (i : Nat) => (i : Int) := by
    refine ris_eq h1 (List.pairwise_map.mpr ((ids2_ris rs1 rs2).imp fun h => by omega)) fun x => ?_
    rw [h2, hV, Bool.or_eq_true, decide_eq_true_eq, decide_eq_true_eq, List.mem_map, List.mem_map, List.mem_map]
    constructor
    · rintro (⟨r, hr, rfl⟩ | ⟨r, hr, rfl⟩)
      · exact ⟨r.id, ids2_mem.mpr (.inl ⟨r, hr, rfl⟩), rfl⟩
      · exact ⟨r.id, ids2_mem.mpr (.inr ⟨r, hr, rfl⟩), rfl⟩
    · rintro ⟨i, hi, rfl⟩
      rcases ids2_mem.mp hi with ⟨r, hr, rfl⟩ | ⟨r, hr, rfl⟩
      · exact .inl ⟨r, hr, rfl⟩
      · exact .inr ⟨r, hr, rfl⟩
  subst en
  obtain ⟨s4, hp4⟩ := al2 (o := .lst (((ids2 rs1 rs2).map fun (i : Nat) => (i : Int)).map V.int)) n4
  have s14 : Same H1 H5 := (s1.trans s2).trans s3
  refine q p4 _ ?_ (s14.trans s4) (by rw [hp4, List.map_map]; rfl)
  cases e : H1 p4 with
  | none => rfl
  | some u => rw [s14 _ _ e] at n4; cases n4
end Tw
namespace PySem.AutoSeq1
theorem tw_extend_tuple (l : Addr) (items : Array Value) (n : Nat) (b : Addr) (items2 : Array Value) (n2 : Nat) (dd : Option Addr) (sl : Array (Option Value)) (hs0 : ¬(!items.isEmpty && Builtin.List.listTooLong (items.size + items2.size)) = true) (hs1 : items.size ≤ sizeLine) (hs2 : items.size + items2.size ≤ sizeLine + 1) :
    Meets (Builtin.«list.extend» ⟨[.ref l, .ref b], []⟩) (fun _ R s => s.heap.get? l = some { cls := .type "list", dict := none, data := .seq items n, slots := #[] } ∧ s.heap.get? b = some { cls := .type "tuple", dict := dd, data := .seq items2 n2, slots := sl } ∧ R (.ok (.ret Value.none)) { s with heap := s.heap.update l (Obj.mapSeq fun x => x ++ items2), toks := s.toks }) :=
  .of_wp fun prog w A R s h => by
    obtain ⟨hp, g, d, tk, os⟩ := s; obtain ⟨hl, hb, h⟩ := h; have f1 := idx_int; have f2 := sub_tuple_tuple; have f3 := sub_list_list; have f4 := sub_tuple_list; have f5 := sub_list_tuple;
    have hz' : (items ++ items2).size ≤ sizeLine + 1 := by rw [Array.size_append]; exact hs2
    wp_walk using (wpAny_updateSeq hl rfl (hz := hs1) (_hz' := hz')), wpAny_loadPart' hl, wpAny_loadPart' hb; exact ⟨_, rfl, h⟩
end PySem.AutoSeq1
namespace Tw
open PySem PySem.Spec PyProof.Rows L2
variable {X : Cx}
/-! ### list.extend(tuple) -/
def rExtendT : V → List V → Hp → VK → Prop := fun x vs H Q => ∃ l b xs zs, x = .ref l ∧ vs = [.ref b] ∧ H l = some (.lst xs) ∧ H b = some (.tup zs) ∧ xs.length + zs.length ≤ sizeLine ∧ ∀ H', H' = upd H l (.lst (xs ++ zs)) → Q .non H'
theorem mt_extendT : MtR X "list.extend" rExtendT := by
  intro pins s σ H x vs v us Q I rx rv h
  obtain ⟨l, b, xs, zs, rfl, rfl, hH, hB, hz, q⟩ := h
  cases rx
  obtain ⟨u, rfl, ru⟩ := rv.one
  cases ru
  obtain ⟨z, its, n, r, hl, e⟩ := I.lstM hH
  obtain ⟨_, its2, r2, o2, ho2, hc2, n2, hd2⟩ := (show ObjOk X.prog X.w H s.heap b (.tup zs) from I.hok b _ hB)
  have hl2 := r2.length
  obtain ⟨ocls, odict, odata, oslots⟩ := o2
  simp only at hc2 hd2
  subst hc2; subst hd2
  have hsz : its.toArray.size + its2.toArray.size ≤ sizeLine := by rw [List.size_toArray, List.size_toArray]; omega
  have hlong : ¬ (!its.toArray.isEmpty && Builtin.List.listTooLong (its.toArray.size + its2.toArray.size)) = true := by
    rw [notLongL hsz, Bool.and_false]
    exact Bool.false_ne_true
  refine call_meets F.slot_list_extend ⟨_, e, rfl⟩ F.entry_list_extend (F.args_list_extend_2 _ _)
    (AutoSeq1.tw_extend_tuple l its.toArray n b its2.toArray n2 odict oslots hlong (by rw [List.size_toArray]; omega) (by omega)) ⟨e, ho2, ?_⟩
  refine ⟨.non, _, I.lset (its' := its ++ its2) hH e (by simp) (r.append r2) ?_, rfl, q _ rfl⟩
  rw [List.length_append]
  omega
def rExtendL : V → List V → Hp → VK → Prop := fun x vs H Q => ∃ l b xs zs, x = .ref l ∧ vs = [.ref b] ∧ H l = some (.lst xs) ∧ H b = some (.lst zs) ∧ xs.length + zs.length ≤ sizeLine ∧ ∀ H', H' = upd H l (.lst (xs ++ zs)) → Q .non H'
theorem mt_extendL : MtR X "list.extend" rExtendL := fun pins s σ H x vs v us Q I rx rv h => by
  obtain ⟨l, b, xs, zs, e1, e2, e3, e4, e5, q⟩ := h
  exact mt_extend pins s σ H x vs v us Q I rx rv ⟨l, b, xs, zs, e1, e2, e3, e4, e5, q _ rfl⟩
/-! ### len(set(three ints)) -/
theorem int_nodup_len : ∀ (l D : List Int), l.Nodup → (∀ x ∈ l, x ∈ D) → l.length ≤ D.length
  | [], _, _, _ => Nat.zero_le _
  | x :: l, D, hn, hs => by
    obtain ⟨h1, h2⟩ := List.nodup_cons.mp hn
    have hx : x ∈ D := hs x List.mem_cons_self
    have ih := int_nodup_len l (D.erase x) h2 fun y hy => by
      have hne : y ≠ x := fun e => h1 (e ▸ hy)
      exact (List.mem_erase_of_ne hne).2 (hs y (List.mem_cons_of_mem _ hy))
    have e := List.length_erase_of_mem hx
    have hp : 0 < D.length := List.length_pos_of_mem hx
    rw [List.length_cons]
    omega
theorem three_len {L : List Int} {i j k : Int} (hn : L.Nodup) (hm : ∀ x, x ∈ L ↔ x ∈ [i, j, k]) : L.length = 3 ↔ (i ≠ j ∧ j ≠ k ∧ i ≠ k) := by
  constructor
  · intro h
    refine ⟨fun e => ?_, fun e => ?_, fun e => ?_⟩
    · have := int_nodup_len L [j, k] hn fun x hx => by
        have := (hm x).mp hx
        rw [e] at this
        simpa using this
      simp at this; omega
    · have := int_nodup_len L [i, k] hn fun x hx => by
        have := (hm x).mp hx
        rw [e] at this
        simpa using this
      simp at this; omega
    · have := int_nodup_len L [j, k] hn fun x hx => by
        have := (hm x).mp hx
        rw [e] at this
        simp at this ⊢
        rcases this with h | h | h
        · exact .inr h
        · exact .inl h
        · exact .inr h
      simp at this; omega
  · rintro ⟨h1, h2, h3⟩
    have a := int_nodup_len L [i, j, k] hn fun x hx => (hm x).mp hx
    have b := int_nodup_len [i, j, k] L (by simp [h1, h2, h3]) fun x hx => (hm x).mpr hx
    simp at a b; omega
def tLenSet3 (ta : TE) : TE := fun σ H Q => ta σ H fun x H1 => ∃ (l : Addr) (i j k : Int), x = .ref l ∧ H1 l = some (.tup [.int i, .int j, .int k]) ∧ ∀ n : Nat, (n = 3 ↔ (i ≠ j ∧ j ≠ k ∧ i ≠ k)) → Q (.int (n : Nat)) H1
theorem pe_lenSet3 {a : Expr} {ta : TE} {p p2 q pos : Pos} (ha : PE X a ta) (hm : X.mg "len" = none) (hm2 : X.mg "set" = none) (hg : Gl X "len" := by rfl) (hg2 : Gl X "set" := by rfl) (hc : X.calm = true := by rfl)
    (na : starEach [a] X.env = (false, eval a X.env) :: starEach [] X.env := by rfl) : PE X (.Call (.Name "len" p) [.Call (.Name "set" p2) [a] [] q] [] pos) (tLenSet3 ta) := by
  refine ⟨fun pins s σ H Q I h => ?_⟩
  refine Call_ (ld_blt I hg hm boot_len ?_)
  refine PyProof.Rows.callWith_builtin1 (PyProof.Rows.args_cons ?_ rfl) rfl rfl
  refine Call_ (ld_blt I hg2 hm2 boot_set ?_)
  refine PyProof.Rows.callWith_type1 (PyProof.Rows.args_cons (thn (ha.run pins s σ H _ I h) fun v s1 ⟨x, H1, I1, r1, q1⟩ => PyProof.Rows.args_nil ?_) na) na rfl
  obtain ⟨l, i, j, k, rfl, hq, q1⟩ := q1
  cases r1
  obtain ⟨_, its, rv, o2, ho2, hc2, n2, hd2⟩ := (show ObjOk X.prog X.w H1 s1.heap l (.tup [.int i, .int j, .int k]) from I1.hok l _ hq)
  have hints : IntsAre its [i, j, k] := by
    cases rv with
    | cons a1 t1 =>
      cases t1 with
      | cons a2 t2 =>
        cases t2 with
        | cons a3 t3 =>
          cases t3
          obtain ⟨u1, rfl⟩ := a1
          obtain ⟨u2, rfl⟩ := a2
          obtain ⟨u3, rfl⟩ := a3
          exact .cons _ _ (.cons _ _ (.cons _ _ .nil))
  refine call_set_tupI [i, j, k] (I1.ok.hd hc) (l := l) (items := its.toArray) ⟨o2, ho2, hc2, n2, hd2⟩ (by simpa using hints) (by unfold scanBound; simp) fun h' tk c R hcl keep => ?_
  refine PyProof.Rows.args_nil ?_
  obtain ⟨o, es, ep, t, ho, hex, hd, g, nd, hmm, hb, hf, hsize, hr, hl⟩ := R
  have I2 : Inv X pins σ H1 { s1 with heap := h', toks := tk } := I1.kept keep
  have hlen : (es.toList.map keyOf).length = c := by rw [List.length_map, Array.length_toList, hsize]
  have h3 := three_len nd (i := i) (j := j) (k := k) fun x => by rw [← hmm x, decide_eq_true_eq]
  rw [hlen] at h3
  have hc3 : c ≤ 3 := hcl
  exact call_len_set ho hex hd hf (by rw [hsize]; omega) ⟨.int c, H1, I2.tok _, ⟨_, by rw [hsize]⟩, q1 c h3⟩
/-! ### d.setdefault(tuple, x) -/
def tDSetT (td ty tx : TE) : TE := fun σ H Q => td σ H fun x H1 => ∃ a, x = .ref a ∧ IsD H1 a ∧ ty σ H1 fun y H2 => tx σ H2 fun z H3 => ∃ (kvs : List (List Key × V)) (k : List Key) (b : Addr), H3 a = some (.dT kvs) ∧ y = .ref b ∧ H3 b = some (.tup (k.map kV)) ∧ kvs.length < sizeLine ∧
  (∀ v, valV kvs k = some v → Q v H3) ∧ (valV kvs k = none → ∀ H4, H4 = upd H3 a (.dT (putK kvs k z)) → Q z H4)
theorem pe_dsetT {o e f : Expr} {td ty tx : TE} {apos cpos : Pos} (ho : PE X o td) (he : PE X e ty) (hf : PE X f tx) (hu : X.A.units + 1 < cLine) (m : M2 X o "setdefault" apos e f cpos) : PE X (.Call (.Attribute o "setdefault" apos) [e, f] [] cpos) (tDSetT td ty tx) := by
  refine ⟨fun pins s σ H Q I h => ?_⟩
  refine wpAny_Call_method m.base m.few m.line PySem.F.plainAttrs_dict PySem.F.slot_dict_setdefault PySem.F.type_dict_setdefault (thn (ho.run pins s σ H _ I h) fun u s1 ⟨x, H1, I1, rx, a, ex, d, q1⟩ => ?_)
  subst ex
  obtain rfl : u = Value.ref a := rx
  obtain ⟨t1, t2, _⟩ := isD_at I1 d
  refine ⟨t1, t2, ?_⟩
  rw [m.trees]
  refine Calls.callWith_builtin rfl (Calls.evalArgs_plain (Calls.spliced_cons (thn (he.run pins s1 σ H1 _ I1 q1) fun iv s2 ⟨y, H2, I2, ry, q2⟩ =>
    Calls.spliced_cons (thn (hf.run pins s2 σ H2 _ I2 q2) fun fv s3 ⟨z, H3, I3, rz, kvs, k, b, ea, ey, eb, hl, q3, q4⟩ => Calls.spliced_nil ?_))))
  subst ey
  cases (show iv = Value.ref b from ry)
  obtain ⟨hz, hd, xs, rel, dd⟩ := dt_of I3.hok ea
  have hzl : xs.length ≤ sizeLine := by rw [← Paired.length rel]; exact hz
  have hlp : (putK kvs k z).length ≤ sizeLine := by have := length_putK kvs k z; omega
  refine call_setdefault_heap (hsz := hzl) (tupleKind_room_in1 hu) (key_of I3.hok eb) hd dd (fun p hp => ?_) fun hn h' dd' hs => ?_
  · have r := rel.val k
    rw [hp] at r
    cases e0 : valV kvs k with
    | none => rw [e0] at r; exact (show False from r).elim
    | some v0 =>
      rw [e0] at r
      exact ⟨v0, H3, I3.tok _, r, q3 v0 e0⟩
  · have r := rel.val k
    rw [hn] at r
    cases e0 : valV kvs k with
    | some v0 => rw [e0] at r; exact (show False from r).elim
    | none =>
      obtain ⟨q, es, ep, hq, h2, h3, h4, _, h5⟩ := dd'
      refine ⟨z, upd H3 a (.dT (putK kvs k z)), d_write I3 (ob := .dT (putK kvs k z)) (by rw [ea]; exact True.intro) hs ⟨q, hq⟩ ⟨hlp, hd, _, (rel.put k eb rz).keeps fun c ys ec => ?_, q, es, ep, hq, h2, h3, h4, h5⟩, rz, q4 e0 _ rfl⟩
      rw [upd_ne (ne_of ec ea (fun z => nomatch z))]
      exact ec
end Tw
namespace PySem
open AutoSeq1 (wpAny_loadPart')
theorem tw_enumerate_newT (l : Addr) (items : Array Value) (n : Nat) (dct : Option Addr) (sl : Array (Option Value)) :
    Meets (Builtin.«enumerate.__new__» ⟨[.type "enumerate", .ref l], []⟩) (fun _ R s => s.heap.get? l = some { cls := .type "tuple", dict := dct, data := .seq items n, slots := sl } ∧
      R (.ok (.ret (.ref (s.heap.push { cls := .type "tuple_iterator", data := .fields #[.ref l, .int 0 0] }).objs.size)))
        { s with heap := (s.heap.push { cls := .type "tuple_iterator", data := .fields #[.ref l, .int 0 0] }).push { cls := .type "enumerate", data := .fields #[.none, .bool false, .ref s.heap.objs.size, rawInt 0, .none, .none] } }) :=
  .of_wp fun prog w A R s h => by
    obtain ⟨hp, g, d, tk, os⟩ := s; obtain ⟨hl, h⟩ := h
    have hsub := sub_enumerate
    have hL : Heap.IsTuple (Shared.heap ⟨hp, g, d, tk, os⟩) l items := ⟨_, hl, rfl, n, rfl⟩
    wp_walk using wpAny_loadPart' hl
    refine wpAny_stack_any fun st => wpAny_pure ?_
    split
    · rename_i c _ _ _ _ _
      cases (c == Value.type "enumerate")
      · wp_walk using wpAny_loadPart' hl, wpAny_pyIter_tuple hL
        exact ⟨_, rfl, h⟩
      · wp_walk using wpAny_loadPart' hl, wpAny_pyIter_tuple hL
        exact ⟨_, rfl, h⟩
    · wp_walk using wpAny_loadPart' hl, wpAny_pyIter_tuple hL
      exact ⟨_, rfl, h⟩
section
variable {prog : Program} {w : World} {A : Around} {E : Value → Shared → Prop} {s : Shared}
theorem tw_call_enumerate_tuple {l : Addr} {items : Array Value} {Q : Value → Shared → Prop} (hL : s.heap.IsTuple l items)
    (h : ∀ h', IsEnum h' (s.heap.objs.size + 1) s.heap.objs.size 0 .none → h'.IsTupleIter s.heap.objs.size l 0 → h'.objs.size = s.heap.objs.size + 2 →
      (∀ b o, s.heap.get? b = some o → h'.get? b = some o) → Q (.ref (s.heap.objs.size + 1)) { s with heap := h' }) :
    wpAny (model prog w) A (call (.type "enumerate") [.ref l]) Q E s := by
  obtain ⟨⟨c, dct, dt, sl⟩, hl, hc, n, hd⟩ := hL
  replace hc : c = .type "tuple" := hc
  replace hd : dt = .seq items n := hd
  subst hc hd
  refine callType_new F.called_enumerate (by decide) (F.typeCall_enumerate_1 _) (F.newCall_enumerate_1 _) (fun obj => F.args_object_init_2 obj _) F.entry_enumerate_new
    (tw_enumerate_newT l items n dct sl) ⟨hl, ?_⟩
  have hz : (s.heap.push { cls := .type "tuple_iterator", data := .fields #[.ref l, .int 0 0] }).objs.size = s.heap.objs.size + 1 := Heap.size_push ..
  show _ ∧ _
  rw [hz]
  have he : IsEnum ((s.heap.push { cls := .type "tuple_iterator", data := .fields #[.ref l, .int 0 0] }).push
      { cls := .type "enumerate", data := .fields #[.none, .bool false, .ref s.heap.objs.size, rawInt 0, .none, .none] }) (s.heap.objs.size + 1) s.heap.objs.size 0 .none := by
    have := Heap.get?_push_size (s.heap.push { cls := .type "tuple_iterator", data := .fields #[.ref l, .int 0 0] })
      (o := { cls := .type "enumerate", data := .fields #[.none, .bool false, .ref s.heap.objs.size, rawInt 0, .none, .none] }) rfl
    rw [hz] at this; exact this
  refine ⟨⟨_, he, rfl⟩, h _ he ⟨_, Heap.get?_push_of_some _ (Heap.get?_push_size _ rfl), rfl, rfl⟩ (by rw [Heap.size_push, hz]) fun b o x => Heap.get?_push_of_some _ (Heap.get?_push_of_some _ x)⟩
end
end PySem
namespace Tw
open PySem PySem.Spec PyProof.Rows L2
def IteT (K : PySem.W.Frag) (a : Addr) : It :=
  ⟨fun i H => ∃ (xs : List V) (x : V), SqT K H a xs ∧ xs[i]? = some x, fun i H v H' => ∃ T x, v = .ref T ∧ H T = none ∧ H' = upd H T (.tup [.int (i : Nat), x]) ∧ ∀ xs, SqT K H a xs → xs[i]? = some x, fun i H => ∃ xs : List V, SqT K H a xs ∧ xs.length ≤ i⟩
theorem turn_enumT {P : Program} {w : World} {K : PySem.W.Frag} {elts : List Expr} {kk : Nat} {tpos : Pos} (a e it : Addr) :
    Turn P w K (.Tuple elts kk tpos) (IteT K a) [e, it] e (fun i h => (∃ old, IsEnum h e it ((i : Nat) : Int) old) ∧ h.IsTupleIter it a i ∧ e ≠ it) where
  mem := by simp
  obj := fun i h st b hb => by
    obtain ⟨⟨old, he⟩, ⟨o, ho, hc, hd⟩, _⟩ := st
    have e' : b = e ∨ b = it := by simpa using hb
    rcases e' with z | z
    · rw [z]; exact ⟨_, he, fun v q => nomatch q⟩
    · rw [z]; exact ⟨o, ho, fun v q => by rw [hd] at q; cases q⟩
  keep := fun i h h' st k => let ⟨⟨old, he⟩, hi, hne⟩ := st; ⟨⟨old, k e (by simp) _ he⟩, let ⟨o, ho, r⟩ := hi; ⟨o, k it (by simp) o ho, r⟩, hne⟩
  item := by
    intro X hP hw hK hc i pins s σ H E I hf st hg
    subst hP hw hK
    obtain ⟨⟨old, he⟩, hit, hne⟩ := st
    obtain ⟨xs, x, hq, hx⟩ := hg
    obtain ⟨its, rv, p, hz⟩ := I.tuple hq
    obtain ⟨u, hu, ru⟩ := rv.get hx
    have hel : e < s.heap.objs.size := Heap.lt_size he
    have hil : it < s.heap.objs.size := by obtain ⟨_, q, _⟩ := hit; exact Heap.lt_size q
    have pt : s.heap.IsTuple a its.toArray := p
    have hea : e ≠ a := fun z => by
      obtain ⟨o, ho, hc', _⟩ := pt
      rw [← z, he] at ho
      rw [← Option.some.inj ho] at hc'
      have hc' : Value.type "enumerate" = Value.type "tuple" := hc'
      exact absurd hc' (by decide)
    have hai : a ≠ it := fun z => by
      obtain ⟨o, ho, hc', _⟩ := pt
      obtain ⟨o2, ho2, hc2, _⟩ := hit
      rw [z, ho2] at ho
      rw [← Option.some.inj ho, hc2] at hc'
      exact absurd hc' (by decide)
    have hD := Draws.tuple (prog := X.prog) (w := X.w) (A := X.A.in1) (I.ok.hd hc) it a hai its.toArray
    refine wpAny_pyNext_enum_itemD hD he ⟨hit, pt⟩ (by
      have := (List.getElem?_eq_some_iff.mp hu).1
      simpa using this) hne (by simp [hne, hea]) fun x' h' tk hP ho hit' hT hsz hk => ?_
    obtain ⟨ht', _⟩ := hit'
    have hxu : x' = u := by
      have h1 : its[i]? = some x' := by simpa using hP
      rw [hu] at h1
      exact (Option.some.inj h1).symm
    subst hxu
    refine ⟨_, rfl, wpAny_letOwnedTupleGo_enum (s := { s with heap := h', toks := tk + 1 }) ho fun h'' he' sb => ?_⟩
    have hT2 : h''.get? s.heap.objs.size = some { cls := .type "tuple", data := .seq #[.int i tk, x'] } := (sb.2 _ (Nat.ne_of_gt hel)).trans hT
    have new : ObjOk X.prog X.w (upd H s.heap.objs.size (.tup [.int (i : Nat), x])) h'' s.heap.objs.size (.tup [.int (i : Nat), x]) :=
      ⟨by show 2 ≤ sizeLine; decide, [.int i tk, x'], .cons ⟨_, rfl⟩ (.cons ru .nil), ⟨_, hT2, rfl, _, rfl⟩⟩
    have I1 : Inv X pins σ (upd H s.heap.objs.size (.tup [.int (i : Nat), x])) { s with heap := h'', toks := tk + 1 } :=
      I.turnedNew (ch := [e, it]) (fun b ob hb q => (sb.2 b (fun z => hb (by simp [z]))).trans (hk b ob (fun z => hb (by simp [z])) (fun z => hb (by simp [z])) q)) hf (Nat.le_refl _) new
    refine ⟨.ref s.heap.objs.size, _, I1, rfl, ⟨_, x, rfl, I.hok.fresh (Nat.le_refl _), rfl, fun ys hy => by rw [I.tuple_inj hy hq]; exact hx⟩, ⟨⟨x', ?_⟩, ?_, hne⟩, fun b hb => ?_⟩
    · have e1 : ((i + 1 : Nat) : Int) = (i : Int) + 1 := by omega
      rw [e1]; exact he'
    · obtain ⟨o, ho2, r⟩ := ht'
      exact ⟨o, (sb.2 it (Ne.symm hne)).trans ho2, r⟩
    · have hb' : b < s.heap.objs.size := by
        have e' : b = e ∨ b = it := by simpa using hb
        rcases e' with z | z
        · rw [z]; exact hel
        · rw [z]; exact hil
      rw [upd_ne (Nat.ne_of_lt hb')]
      exact (hf b hb).1
  done := by
    intro X hP hw hK hc i pins s σ H E I hf st hg
    subst hP hw hK
    obtain ⟨⟨old, he⟩, hit, hne⟩ := st
    obtain ⟨xs, hq, hx⟩ := hg
    obtain ⟨its, rv, p, hz⟩ := I.tuple hq
    have pt : s.heap.IsTuple a its.toArray := p
    obtain ⟨f0, f1, f2, f3, f4, f5⟩ := hf it (by simp)
    have hl := rv.length
    unfold pyNext
    have hT : s.TypeIs (.ref e) "enumerate" := ⟨_, he, rfl⟩
    refine wpAny_bind (wpAny_attempt (wpAny_callSpecial?_slot (name := Str.ofString "__next__") hT F.slot_enumerate_next
      (wpAny_call_entry F.slot_enumerate_next hT F.entry_enumerate_next ?_ (F.args_enumerate_next_1 _))))
    show wpAny _ _ (field (.ref e) 2 >>= _) _ _ _
    refine wpAny_bind (wpAny_field he rfl (x := .ref it) rfl ?_)
    refine wpAny_bind (wpAny_nextOf_tuple_end (I.ok.hd hc) hit pt (by simp; omega) fun h' x he' hx' => ?_)
    obtain ⟨o, ho, hc'⟩ := hx'
    refine wpAny_bind (wpAny_isInstance (T := "StopIteration") (b := true) ⟨o, ho, hc'⟩ isSubtype_stop ?_)
    exact wpAny_pure ⟨rfl, I.turned (t' := s.toks) (fun b o hb q => he' b o hb q) f0 f1 f3 f4 f5⟩
  self := fun A i s Q E st h => let ⟨⟨_, he⟩, _⟩ := st; wpAny_pyIter_enum he h
def iEnumT (K : PySem.W.Frag) (ta : TA) : L2.TI := fun σ H R => ta σ H fun vs H1 => ∃ (a : Addr) (xs : List V), vs = [.ref a] ∧ SqT K H1 a xs ∧ R (IteT K a) H1
theorem pi_enumT {X : Cx} {e : Expr} {ta : TA} {p pos tpos : Pos} {elts : List Expr} {kk : Nat} (hg : Gl X "enumerate") (hm : X.mg "enumerate" = none) (ha : PA X [e] ta) (hs : starEach [e] X.env = [(false, eval e X.env)] := by rfl) :
    PI X (.Tuple elts kk tpos) (.Call (.Name "enumerate" p) [e] [] pos) (iEnumT X.K ta) := by
  refine ⟨fun pins s σ H R I h => ?_⟩
  refine Call_ (ld_blt I hg hm boot_enumerate (PyProof.Rows.callWith_type1 (thn (ha.run pos pins s σ H _ I h) fun us s1 ⟨vs, H1, I1, r1, q1⟩ => ?_) hs rfl))
  obtain ⟨a, xs, ex, hq, q⟩ := q1
  subst ex
  cases r1 with
  | cons r rr =>
    cases rr
    cases r
    obtain ⟨its, rv, p', hz⟩ := I1.tuple hq
    have pt : s1.heap.IsTuple a its.toArray := p'
    refine tw_call_enumerate_tuple pt fun h' he hit hsz hk => wpAny_pyIter_enum he ?_
    have I2 : Inv X pins σ H1 { s1 with heap := h' } := I1.kept (t' := s1.toks) hk
    refine ⟨s1.heap.objs.size + 1, [s1.heap.objs.size + 1, s1.heap.objs.size], _, _, H1, rfl, I2, turn_enumT a (s1.heap.objs.size + 1) s1.heap.objs.size, ⟨⟨.none, he⟩, hit, Nat.succ_ne_self _⟩, fun b hb => ?_, q⟩
    have e' : b = s1.heap.objs.size + 1 ∨ b = s1.heap.objs.size := by simpa using hb
    have hle : s1.heap.objs.size ≤ b := by
      rcases e' with z | z
      · rw [z]; exact Nat.le_add_right _ _
      · rw [z]; exact Nat.le_refl _
    exact I1.fpOk hle (I1.hok.fresh hle)
variable {K : PySem.W.Frag} {a : Addr} {xs : List V}
theorem walk_enumT : Walk (IteT K a) xs.length (fun H => SqT K H a xs) (YPair (fun i => some (.int (i : Nat))) (fun i => xs[i]?)) := by
  refine ⟨fun i _ hi q => ⟨xs, xs[i], q, by simp [hi]⟩, fun _ q => ⟨xs, q, Nat.le_refl _⟩, fun i H v H' _ q y => ?_⟩
  obtain ⟨T, x, h1, h2, h3, h4⟩ := y
  exact ⟨T, .int (i : Nat), x, h1, h2, h3, rfl, h4 xs q⟩
end Tw
namespace Tw
open PySem PySem.Spec PyProof.Rows L2
open VauowBase (Db findRow)
/-! ### two databases are the same -/
theorem gen_nodup_len {α : Type} [DecidableEq α] : ∀ (l D : List α), l.Nodup → (∀ x ∈ l, x ∈ D) → l.length ≤ D.length
  | [], _, _, _ => Nat.zero_le _
  | x :: l, D, hn, hs => by
    obtain ⟨h1, h2⟩ := List.nodup_cons.mp hn
    have hx : x ∈ D := hs x List.mem_cons_self
    have ih := gen_nodup_len l (D.erase x) h2 fun y hy => by
      have hne : y ≠ x := fun e => h1 (e ▸ hy)
      exact (List.mem_erase_of_ne hne).2 (hs y (List.mem_cons_of_mem _ hy))
    have e := List.length_erase_of_mem hx
    have hp : 0 < D.length := List.length_pos_of_mem hx
    rw [List.length_cons]
    omega
theorem risF_cons {k : Nat} {r : VauowBase.Row} {l : List VauowBase.Row} (h : risF k (r :: l) = true) : k < r.id ∧ risF r.id l = true := by
  have h : (decide (k < r.id) && risF r.id l) = true := h
  rw [Bool.and_eq_true, decide_eq_true_eq] at h
  exact h
theorem risF_nodup : ∀ {l : List VauowBase.Row} {k : Nat}, risF k l = true → l.Nodup
  | [], _, _ => List.nodup_nil
  | r :: l, k, h => by
    obtain ⟨h1, h2⟩ := risF_cons h
    refine List.nodup_cons.mpr ⟨fun z => ?_, risF_nodup h2⟩
    have := ris_gt h2 r z
    omega
theorem same_rows : ∀ {l m : List VauowBase.Row} {k j : Nat}, risF k l = true → risF j m = true → l.length = m.length → (∀ r ∈ l, r ∈ m) → l = m
  | [], [], _, _, _, _, _, _ => rfl
  | [], _ :: _, _, _, _, _, h, _ => by cases h
  | _ :: _, [], _, _, _, _, h, _ => by cases h
  | r :: l, q :: m, k, j, h1, h2, hl, hm => by
    obtain ⟨a1, a2⟩ := risF_cons h1
    obtain ⟨b1, b2⟩ := risF_cons h2
    have hrq : r = q := by
      rcases List.mem_cons.mp (hm r (by simp)) with e | e
      · exact e
      exfalso
      have hlt : q.id < r.id := ris_gt b2 r e
      have sub : ∀ x ∈ r :: l, x ∈ m := fun x hx => by
        rcases List.mem_cons.mp (hm x hx) with e' | e'
        · exfalso
          rcases List.mem_cons.mp hx with z | z
          · rw [e'] at z; rw [z] at hlt; omega
          · have := ris_gt a2 x z
            rw [e'] at this; omega
        · exact e'
      have := gen_nodup_len (r :: l) m (risF_nodup h1) sub
      rw [List.length_cons] at this hl
      rw [List.length_cons] at hl
      omega
    subst hrq
    rw [List.length_cons, List.length_cons] at hl
    rw [same_rows (k := r.id) (j := r.id) a2 b2 (by omega) fun x hx => ?_]
    rcases List.mem_cons.mp (hm x (List.mem_cons_of_mem _ hx)) with e | e
    · have := ris_gt a2 x hx
      rw [e] at this; omega
    · exact e
theorem tab_fun {H : Hp} : ∀ {kvs : List (Key × V)} {l m : List VauowBase.Row}, Paired (RowR H) kvs l → Paired (RowR H) kvs m → l = m
  | _, _, _, .nil, .nil => rfl
  | _, _, _, .cons (b := r) h1 t1, .cons (b := q) h2 t2 => by
    obtain ⟨a1, e1, f1⟩ := h1
    obtain ⟨a2, e2, f2⟩ := h2
    rw [e1] at e2
    injection e2 with e3 e4
    injection e3 with e3
    injection e4 with e4
    subst e4
    rw [f1] at f2
    injection f2 with f2
    injection f2 with f2
    have hv : r.vals = q.vals := by
      have := congrArg (List.map fun v => match v with | V.int i => i | _ => 0) f2
      simpa [List.map_map, Function.comp_def] using this
    have hi : r.id = q.id := by omega
    rw [tab_fun t1 t2]
    congr 1
    cases r; cases q
    cases hv; cases hi; rfl
variable {X : Cx}
theorem row_tree {pins : List (Addr × Obj)} {σ : L2.St} {H : Hp} {s : Shared} (I : L2.Inv X pins σ H s) {a b : Addr} {l m : List Int} (h1 : H a = some (.tup (l.map V.int))) (h2 : H b = some (.tup (m.map V.int))) :
    PySem.W.EqTree X.prog X.w s 1 (.ref a) (.ref b) (decide (l = m)) := by
  by_cases e : a = b
  · subst e
    rw [h1] at h2
    injection h2 with h2
    injection h2 with h2
    have hv : l = m := by
      have := congrArg (List.map fun v => match v with | V.int i => i | _ => 0) h2
      simpa [List.map_map, Function.comp_def] using this
    rw [decide_eq_true hv]
    exact .same
  obtain ⟨_, its, rv, o, ho, hc, n, hd⟩ := (show ObjOk X.prog X.w H s.heap a (.tup (l.map V.int)) from I.hok a _ h1)
  obtain ⟨_, its2, rv2, o2, ho2, hc2, n2, hd2⟩ := (show ObjOk X.prog X.w H s.heap b (.tup (m.map V.int)) from I.hok b _ h2)
  have hl : its.length = l.length := by have := rv.length; rw [List.length_map] at this; omega
  have hm : its2.length = m.length := by have := rv2.length; rw [List.length_map] at this; omega
  have T := PySem.W.EqTree.tuples (prog := X.prog) (w := X.w) (s := s) (n := 0) (l := a) (l' := b) (vs := its.toArray) (vs' := its2.toArray) (e := fun j => decide (l[j]? = m[j]?)) e ⟨o, ho, hc, n, hd⟩ ⟨o2, ho2, hc2, n2, hd2⟩ (fun j h1 h2 => ?_)
  · have ee : ((List.range (min its.toArray.size its2.toArray.size)).all (fun j => decide (l[j]? = m[j]?)) && its.toArray.size == its2.toArray.size) = decide (l = m) := by
      rw [List.size_toArray, List.size_toArray, hl, hm]
      by_cases hlm : l.length = m.length
      · rw [hlm, Nat.min_self, beq_self_eq_true, Bool.and_true, Bool.eq_iff_iff, List.all_eq_true, decide_eq_true_eq]
        constructor
        · intro h
          refine List.ext_getElem? fun j => ?_
          by_cases hj : j < m.length
          · exact of_decide_eq_true (h j (List.mem_range.mpr hj))
          · rw [List.getElem?_eq_none (by omega), List.getElem?_eq_none (by omega)]
        · rintro rfl j _
          exact decide_eq_true rfl
      · rw [beq_eq_false_iff_ne.mpr hlm, Bool.and_false]
        exact (decide_eq_false fun z => hlm (by rw [z])).symm
    rw [ee] at T
    exact T
  · have h1' : j < l.length := by rw [List.size_toArray] at h1; omega
    have h2' : j < m.length := by rw [List.size_toArray] at h2; omega
    obtain ⟨u, hu, ru⟩ := rv.get (i := j) (x := V.int l[j]) (by simp [h1'])
    obtain ⟨v, hv, r2⟩ := rv2.get (i := j) (x := V.int m[j]) (by simp [h2'])
    obtain ⟨t1, rfl⟩ := ru
    obtain ⟨t2, rfl⟩ := r2
    have e1 : its.toArray[j] = Value.int l[j] t1 := by
      have := (List.getElem?_eq_some_iff.mp hu).2
      simpa using this
    have e2 : its2.toArray[j] = Value.int m[j] t2 := by
      have := (List.getElem?_eq_some_iff.mp hv).2
      simpa using this
    rw [e1, e2]
    refine .leaf fun A _ => ?_
    have := SeqAt.EqAt.int_int (A := A) (s := s) l[j] t1 m[j] t2
    rw [show decide (l[j]? = m[j]?) = (l[j] == m[j]) by
      rw [List.getElem?_eq_getElem h1', List.getElem?_eq_getElem h2', Bool.eq_iff_iff, decide_eq_true_eq, beq_iff_eq, Option.some.injEq]]
    exact this
end Tw
namespace Tw
open PySem PySem.Spec PyProof.Rows L2
open VauowBase (Db findRow)
variable {X : Cx}
theorem find_mem {rs : List VauowBase.Row} {i : Nat} {r : VauowBase.Row} (h : findRow rs i = some r) : r ∈ rs ∧ r.id = i := by
  unfold findRow at h
  exact ⟨List.mem_of_find?_eq_some h, by simpa using List.find?_some h⟩
theorem kv_at {H : Hp} : ∀ {kvs : List (Key × V)} {rs : List VauowBase.Row} {vs : List (Key × Value)}, Paired (RowR H) kvs rs → KV kvs vs → ∀ {k : Key} {v : Value}, (k, v) ∈ vs → ∃ r ra, r ∈ rs ∧ k = .inl (r.id : Int) ∧ v = .ref ra ∧ H ra = some (.tup (r.vals.map V.int))
  | _, _, _, .nil, h, k, v, hm => by cases h; cases hm
  | _, _, _, .cons (b := r) h1 t1, h, k, v, hm => by
    cases h with
    | cons h2 t2 =>
      obtain ⟨ra, e, f⟩ := h1
      rcases List.mem_cons.mp hm with z | z
      · obtain ⟨g1, g2⟩ := h2
        rw [← z, e] at g1 g2
        have g1 : Sum.inl (r.id : Int) = k := g1
        have g2 : RelV (.ref ra) v := g2
        exact ⟨r, ra, by simp, g1.symm, by cases g2; rfl, f⟩
      · obtain ⟨q, qa, a1, a2⟩ := kv_at t1 t2 z
        exact ⟨q, qa, by simp [a1], a2⟩
theorem tab_tree {pins : List (Addr × Obj)} {σ : L2.St} {H : Hp} {s : Shared} (I : L2.Inv X pins σ H s) {a b : Addr} {l m : List VauowBase.Row} (h1 : TabD H a l) (h2 : TabD H b m) (r1 : risF 0 l = true) (r2 : risF 0 m = true) :
    PySem.W.EqTree X.prog X.w s 2 (.ref a) (.ref b) (decide (l = m)) := by
  obtain ⟨kvs, e1, p1⟩ := h1.ex
  obtain ⟨kvs2, e2, p2⟩ := h2.ex
  by_cases e : a = b
  · subst e
    rw [e1] at e2
    injection e2 with e2
    injection e2 with e2
    subst e2
    rw [decide_eq_true (tab_fun p1 p2)]
    exact .same
  obtain ⟨_, sa, vs, rel, dd⟩ := dk_of I.hok e1
  obtain ⟨_, sb, vs2, rel2, dd2⟩ := dk_of I.hok e2
  have T := PySem.W.EqTree.dicts (prog := X.prog) (w := X.w) (s := s) (knd := mixKind X.prog X.w) (n := 1) (a := a) (b := b) (ka := vs) (kb := vs2) (e := fun k => match k with | .inl i => decide (findRow l i.toNat = findRow m i.toNat) | .inr _ => false) e sa sb dd dd2 ?_
  · have ll : vs.length = l.length := by rw [← rel.length]; exact Paired.length p1
    have lm : vs2.length = m.length := by rw [← rel2.length]; exact Paired.length p2
    have hk : vs.map (·.1) = (l.map fun r => (r.id : Int)).map Sum.inl := rel.keys.symm.trans (keys_ids p1)
    have ee : (vs.length == vs2.length && vs.all fun p => (valueAt vs2 p.1).isSome && (match p.1 with | .inl i => decide (findRow l i.toNat = findRow m i.toNat) | .inr _ => false)) = decide (l = m) := by
      have hall : (vs.all fun p => (valueAt vs2 p.1).isSome && (match p.1 with | .inl i => decide (findRow l i.toNat = findRow m i.toNat) | .inr _ => false)) = (l.all fun r => decide (findRow m r.id = some r)) := by
        have q1 : (vs.all fun p => (valueAt vs2 p.1).isSome && (match p.1 with | .inl i => decide (findRow l i.toNat = findRow m i.toNat) | .inr _ => false)) = ((vs.map (·.1)).all fun k => (valueAt vs2 k).isSome && (match k with | .inl i => decide (findRow l i.toNat = findRow m i.toNat) | .inr _ => false)) := by
          rw [List.all_map]; rfl
        rw [q1, hk, List.map_map, List.all_map, Bool.eq_iff_iff, List.all_eq_true, List.all_eq_true]
        refine forall_congr' fun r => ?_
        refine imp_congr_right fun hr => ?_
        have f1 := find_self r1 r hr
        show ((valueAt vs2 (Sum.inl (r.id : Int))).isSome && decide (findRow l ((r.id : Int).toNat) = findRow m ((r.id : Int).toNat))) = true ↔ _
        rw [Int.toNat_natCast, f1, ← (rel2.val (.inl (r.id : Int))).isSome_eq, key_is p2 (Int.natCast_nonneg _), Int.toNat_natCast]
        cases findRow m r.id with
        | none => simp
        | some q => simp [eq_comm]
      rw [hall, ll, lm, Bool.eq_iff_iff, Bool.and_eq_true, beq_iff_eq, List.all_eq_true, decide_eq_true_eq]
      constructor
      · rintro ⟨c1, c2⟩
        exact same_rows r1 r2 c1 fun r hr => (find_mem (of_decide_eq_true (c2 r hr))).1
      · rintro rfl
        exact ⟨rfl, fun r hr => decide_eq_true (find_self r1 r hr)⟩
    rw [ee] at T
    exact T
  · intro k v y hm hv
    obtain ⟨r, ra, hr, rfl, rfl, hra⟩ := kv_at p1 rel hm
    have f1 := find_self r1 r hr
    have hm2 : (Sum.inl (r.id : Int), y) ∈ vs2 := by
      obtain ⟨⟨k', v'⟩, hp, hp2⟩ := Option.map_eq_some_iff.mp hv
      have e3 := List.find?_some hp
      have e3 : k' = Sum.inl (r.id : Int) := of_decide_eq_true e3
      have hp2 : v' = y := hp2
      subst e3 hp2
      exact List.mem_of_find?_eq_some hp
    obtain ⟨q, qa, hq, ek, rfl, hqa⟩ := kv_at p2 rel2 hm2
    injection ek with ek
    have hid : q.id = r.id := by omega
    have f2 := find_self r2 q hq
    rw [hid] at f2
    have := row_tree I hra hqa
    show PySem.W.EqTree X.prog X.w s 1 (.ref ra) (.ref qa) (decide (findRow l ((r.id : Int).toNat) = findRow m ((r.id : Int).toNat)))
    rw [Int.toNat_natCast, f1, f2, show decide (some r = some q) = decide (r.vals = q.vals) by
      rw [Bool.eq_iff_iff, decide_eq_true_eq, decide_eq_true_eq, Option.some.injEq]
      constructor
      · rintro rfl; rfl
      · intro z
        cases r; cases q
        cases z; cases hid; rfl]
    exact this
/-- first == second, databases -/
def RisDb (d : Db) : Prop := ∀ rs ∈ d, risF 0 rs = true
def rEqDb : R2 := fun x y H Q => ∃ (a b : Addr) (d e : Db), x = .ref a ∧ y = .ref b ∧ DbAt H a d ∧ DbAt H b e ∧ d.length = e.length ∧ RisDb d ∧ RisDb e ∧ Q (.bl (decide (d = e))) H
theorem op_eqDb (hu : X.A.units + 64 < cLine) : OpR X (compareOp .Eq) rEqDb := by
  intro pins s σ H x y v u Q I rx ry h
  obtain ⟨a, b, d, e, rfl, rfl, ha, hb, hl, rd, re, q⟩ := h
  cases rx
  cases ry
  obtain ⟨das, h1, p1⟩ := ha.ex
  obtain ⟨dbs, h2, p2⟩ := hb.ex
  obtain ⟨_, its, n, rv, hl1, ho⟩ := I.lstM h1
  obtain ⟨_, its2, n2, rv2, hl2, ho2⟩ := I.lstM h2
  rw [List.length_map] at hl1 hl2
  have k1 := Paired.length p1
  have k2 := Paired.length p2
  refine PySem.W.eq_listsT (n := 2) (e := fun j => decide (d[j]? = e[j]?)) (vs := its.toArray) (vs' := its2.toArray) ⟨_, ho, rfl, n, rfl⟩ ⟨_, ho2, rfl, n2, rfl⟩ (by rw [List.size_toArray, List.size_toArray]; omega) (fun j c1 c2 => ?_) (by omega) ?_
  · rw [List.size_toArray] at c1 c2
    have j1 : j < d.length := by omega
    have j2 : j < e.length := by omega
    obtain ⟨da, g1, g2⟩ := paired_get p1 (List.getElem?_eq_getElem j1)
    obtain ⟨db, g3, g4⟩ := paired_get p2 (List.getElem?_eq_getElem j2)
    obtain ⟨u1, w1, r1⟩ := rv.get (i := j) (x := V.ref da) (by rw [List.getElem?_map, g1]; rfl)
    obtain ⟨u2, w2, r2⟩ := rv2.get (i := j) (x := V.ref db) (by rw [List.getElem?_map, g3]; rfl)
    cases r1
    cases r2
    have e1 : its.toArray[j]'(by rw [List.size_toArray]; exact c1) = Value.ref da := by
      have := (List.getElem?_eq_some_iff.mp w1).2
      simpa using this
    have e2 : its2.toArray[j]'(by rw [List.size_toArray]; exact c2) = Value.ref db := by
      have := (List.getElem?_eq_some_iff.mp w2).2
      simpa using this
    rw [e1, e2]
    have := tab_tree I g2 g4 (rd _ (List.getElem_mem j1)) (re _ (List.getElem_mem j2))
    rw [show decide (d[j]? = e[j]?) = decide (d[j] = e[j]) by
      rw [List.getElem?_eq_getElem j1, List.getElem?_eq_getElem j2, Bool.eq_iff_iff, decide_eq_true_eq, decide_eq_true_eq, Option.some.injEq]]
    exact this
  · refine ⟨.bl (decide (d = e)), H, I, ?_, q⟩
    show Value.bool _ = _
    congr 1
    rw [List.size_toArray, Bool.eq_iff_iff, List.all_eq_true, decide_eq_true_eq]
    constructor
    · intro h
      refine List.ext_getElem? fun j => ?_
      by_cases hj : j < its.length
      · exact of_decide_eq_true (h j (List.mem_range.mpr hj))
      · rw [List.getElem?_eq_none (by omega), List.getElem?_eq_none (by omega)]
    · rintro rfl j _
      exact decide_eq_true rfl
end Tw
namespace Tw
open PySem PySem.Spec PyProof.Rows L2
variable {X : Cx}
/-! ### None, a number, a row: whether they're the same -/
inductive OD where
  | non
  | num (i : Int)
  | row (l : List Int)
  | lst (l : List Int)
deriving DecidableEq
def OdR (H : Hp) (v : V) : OD → Prop
  | .non => v = .non
  | .num i => v = .int i
  | .row l => ∃ a, v = .ref a ∧ H a = some (.tup (l.map V.int))
  | .lst l => ∃ a, v = .ref a ∧ H a = some (.lst (l.map V.int))
def OD.dat : OD → PyData
  | .non => .none
  | .num i => .int i
  | .row l => .tuple (l.map PyData.int)
  | .lst l => .list (l.map PyData.int)
theorem dpall_ints (K : PySem.W.Frag) (H : Hp) : ∀ l : List Int, DpAll K H (l.map V.int) (l.map PyData.int)
  | [] => .nil
  | i :: l => .cons (.int i) (dpall_ints K H l)
theorem OdR.dp {K : PySem.W.Frag} {H : Hp} {v : V} : ∀ {d : OD}, OdR H v d → Dp K H v d.dat
  | .non, h => by cases h; exact .non
  | .num i, h => by cases h; exact .int i
  | .row l, h => by
    obtain ⟨a, rfl, h⟩ := h
    exact .tup (SqT.of h) (dpall_ints K H l)
  | .lst l, h => by
    obtain ⟨a, rfl, h⟩ := h
    exact .lst (SqL.of h) (dpall_ints K H l)
theorem canAll_ints : ∀ l : List Int, PyData.canLayAll0 (l.map PyData.int) = true
  | [] => rfl
  | i :: l => by
    show (PyData.canLay0 (.int i) && PyData.canLayAll0 (l.map PyData.int)) = true
    rw [canAll_ints l]; rfl
theorem depthAll_ints : ∀ l : List Int, PyData.depthAll (l.map PyData.int) ≤ 2
  | [] => by show PyData.depthAll [] ≤ 2; decide
  | i :: l => by
    have := depthAll_ints l
    rw [List.map_cons]
    unfold PyData.depthAll
    have h1 : PyData.depth (.int i) ≤ 2 := by unfold PyData.depth; omega
    first | omega | (simp only [Nat.max_le]; exact ⟨h1, this⟩)
theorem OD.sh : ∀ d : OD, SeqAt.shaped d.dat = true
  | .non => by decide
  | .num i => by
    unfold SeqAt.shaped OD.dat
    rw [show PyData.canLay0 (.int i) = true from rfl, Bool.true_and]
    exact decide_eq_true (by unfold PyData.depth; omega)
  | .row l => by
    unfold SeqAt.shaped OD.dat
    rw [show PyData.canLay0 (.tuple (l.map PyData.int)) = PyData.canLayAll0 (l.map PyData.int) from rfl, canAll_ints, Bool.true_and]
    have := depthAll_ints l
    exact decide_eq_true (by unfold PyData.depth; omega)
  | .lst l => by
    unfold SeqAt.shaped OD.dat
    rw [show PyData.canLay0 (.list (l.map PyData.int)) = PyData.canLayAll0 (l.map PyData.int) from rfl, canAll_ints, Bool.true_and]
    have := depthAll_ints l
    exact decide_eq_true (by unfold PyData.depth; omega)
theorem eqvAll_ints : ∀ l m : List Int, PyData.eqvAll (l.map PyData.int) (m.map PyData.int) = decide (l = m)
  | [], [] => rfl
  | [], _ :: _ => by rw [decide_eq_false (by simp)]; rfl
  | _ :: _, [] => by rw [decide_eq_false (by simp)]; rfl
  | i :: l, j :: m => by
    show (PyData.eqv (.int i) (.int j) && PyData.eqvAll (l.map PyData.int) (m.map PyData.int)) = _
    rw [eqvAll_ints l m, show PyData.eqv (.int i) (.int j) = (i == j) by unfold PyData.eqv; rfl, Bool.eq_iff_iff, Bool.and_eq_true, beq_iff_eq, decide_eq_true_eq, decide_eq_true_eq, List.cons.injEq]
theorem OD.eqv : ∀ d e : OD, (match d, e with | .row _, .lst _ => False | .lst _, .row _ => False | _, _ => True) → PyData.eqv d.dat e.dat = decide (d = e) := by
  intro d e h
  cases d <;> cases e <;> first
    | exact h.elim
    | (rw [decide_eq_false (fun z => OD.noConfusion z)]; unfold OD.dat PyData.eqv; rfl)
    | (show PyData.eqvAll _ _ = _; rw [eqvAll_ints, Bool.eq_iff_iff, decide_eq_true_eq, decide_eq_true_eq]; constructor <;> intro z <;> (first | rw [z] | (injection z)))
    | (rename_i i j; show (i == j) = _; rw [Bool.eq_iff_iff, beq_iff_eq, decide_eq_true_eq]; constructor <;> intro z <;> (first | rw [z] | (injection z)))
    | (rw [decide_eq_true rfl]; rfl)
def rEqO : R2 := fun x y H Q => ∃ d e : OD, OdR H x d ∧ OdR H y e ∧ (match d, e with | .row _, .lst _ => False | .lst _, .row _ => False | _, _ => True) ∧ Q (.bl (decide (d = e))) H
def rNeO : R2 := fun x y H Q => ∃ d e : OD, OdR H x d ∧ OdR H y e ∧ (match d, e with | .row _, .lst _ => False | .lst _, .row _ => False | _, _ => True) ∧ Q (.bl (!decide (d = e))) H
theorem op_eqO (hu : X.A.units + 64 < cLine) : OpR X (compareOp .Eq) rEqO := by
  intro pins s σ H x y v u Q I rx ry h
  obtain ⟨d, e, h1, h2, h3, q⟩ := h
  exact op_eqD hu pins s σ H x y v u Q I rx ry ⟨_, _, h1.dp, h2.dp, d.sh, e.sh, by rw [OD.eqv d e h3]; exact q⟩
theorem op_neO (hu : X.A.units + 64 < cLine) : OpR X (compareOp .NotEq) rNeO := by
  intro pins s σ H x y v u Q I rx ry h
  obtain ⟨d, e, h1, h2, h3, q⟩ := h
  exact op_neD hu pins s σ H x y v u Q I rx ry ⟨_, _, h1.dp, h2.dp, d.sh, e.sh, by rw [OD.eqv d e h3]; exact q⟩
/-! ### a row, or none -/
def oD : Option (List Int) → OD
  | none => .non
  | some l => .row l
theorem oD_inj {a b : Option (List Int)} : oD a = oD b ↔ a = b := by
  cases a <;> cases b <;> simp [oD]
def OV (H : Hp) (v : V) (o : Option (List Int)) : Prop := OdR H v (oD o)
theorem OdR.same {H H' : Hp} (s : Same H H') {v : V} : ∀ {d : OD}, OdR H v d → OdR H' v d
  | .non, h => h
  | .num i, h => h
  | .row l, h => by obtain ⟨a, e, h⟩ := h; exact ⟨a, e, s _ _ h⟩
  | .lst l, h => by obtain ⟨a, e, h⟩ := h; exact ⟨a, e, s _ _ h⟩
theorem okRow (a b : Option (List Int)) : (match oD a, oD b with | .row _, .lst _ => False | .lst _, .row _ => False | _, _ => True) := by
  cases a <;> cases b <;> trivial
theorem OV.non {H : Hp} {v : V} {o : Option (List Int)} (h : OV H v o) : v = .non ↔ o = none := by
  cases o with
  | none => exact ⟨fun _ => rfl, fun _ => h⟩
  | some l =>
    obtain ⟨a, rfl, _⟩ := h
    exact ⟨(fun z => nomatch z), (fun z => nomatch z)⟩
end Tw
namespace Tw
open PySem PySem.Spec PyProof.Rows L2
open VauowBase (findRow)

variable {P : Program} {w : World} {K : PySem.W.Frag} {mg : Str → Option Value} {base : Heap} {ad : Ads}
/-! ### altered_clashes -/
def altB (a b c : List Int) (i : Nat) : Bool := decide (a.getD i 0 ≠ b.getD i 0 ∧ b.getD i 0 ≠ c.getD i 0 ∧ a.getD i 0 ≠ c.getD i 0)
def altM (a b c : List Int) (n : Nat) : List Cl5 := ((List.range n).filter (altB a b c)).map fun (i : Nat) => ({ kind := 0, col := (i : Int), a := a.getD i 0, b := b.getD i 0, c := c.getD i 0 } : Cl5)
theorem altM_succ (a b c : List Int) (n : Nat) : altM a b c (n + 1) = altM a b c n ++ (if altB a b c n = true then [⟨0, n, a.getD n 0, b.getD n 0, c.getD n 0⟩] else []) := by
  unfold altM
  rw [List.range_succ, List.filter_append, List.map_append]
  congr 1
  by_cases e : altB a b c n = true
  · rw [if_pos e, List.filter_cons, if_pos e]; rfl
  · rw [if_neg e, List.filter_cons, if_neg e]; rfl
abbrev s_altered_clashes : Stmt := top 29
theorem sc_altered_clashes : FnScope ["began", "store", "own", "found", "column", "value", "values"] ["began", "store", "own"] (defScope s_altered_clashes) := ⟨rfl, rfl, rfl, by decide +kernel, rfl, by decide +kernel, by decide +kernel⟩
def sp_altered_clashes : Sp := fun vs H Q _ => ∃ (ba sa oa : Addr) (a b c : List Int), vs = [.ref ba, .ref sa, .ref oa] ∧ H ba = some (.tup (a.map V.int)) ∧ H sa = some (.tup (b.map V.int)) ∧ H oa = some (.tup (c.map V.int)) ∧ b.length = a.length ∧ c.length = a.length ∧ a.length ≤ 100 ∧
  ∀ q ws H', H q = none → Same H H' → H' q = some (.lst ws) → Paired (ClR H') ws (altM a b c a.length) → Q (.ref q) H'
theorem ok_altered_clashes {f : Addr} {fd : FuncData} (T : Tp K mg ad) (F : Fun K "altered_clashes" "altered_clashes" s_altered_clashes f fd) : FnOk P w K mg base CX0 1 f fd ["began", "store", "own"] sp_altered_clashes := by
  refine F.ok sc_altered_clashes (fun vs H Q E h => ?_) (fun cdv A outer s H vs Q E hr h => ⟨_, (pss_cons (ps_set (i := 3) sc_altered_clashes.nd rfl (.inl rfl) (pe_lst pa_nil)) (pss_cons (ps_forO PassesOwn.never rfl (pi_enumT (by rfl) T.b_enumerate (pa_cons (pv 0) pa_nil)) (pg_tup (by rfl) (pgs_cons (pg_name (i := 4) sc_altered_clashes.nd rfl (.inl rfl)) (pgs_cons (pg_name (i := 5) sc_altered_clashes.nd rfl (.inl rfl)) pgs_nil))) (pss_cons (ps_set (i := 6) sc_altered_clashes.nd rfl (.inl rfl) (pe_tup (pa_cons (pv 5) (pa_cons (pe_ix ix_tup (pv 1) (pv 4) (fun _ _ => rfl)) (pa_cons (pe_ix ix_tup (pv 2) (pv 4) (fun _ _ => rfl)) pa_nil))))) (pss_one (ps_if (pt_cmpR op_eq (pe_lenSet3 (pv 6) T.b_len T.b_set) pe_int (nomark _)) (pss_one (ps_expr (pe_bm PySem.F.plainAttrs_list PySem.F.slot_list_append PySem.F.type_list_append mt_appL (pv 3) (pa_cons (pe_tup (pa_cons (pe_cst (by rfl) T.k_BOTH_ALTERED) (pa_cons (pv 4) (pa_cons (pv 6) pa_nil)))) pa_nil)))) pss_nil)))) (pss_one (ps_ret (pv 3))))), ?_⟩)
  · obtain ⟨ba, sa, oa, a, b, c, rfl, _⟩ := h
    rfl
  obtain ⟨ba, sa, oa, a, b, c, rfl, ha, hb, hc, hl, hl2, hz, k⟩ := h
  have hla : (a.map V.int).length = a.length := List.length_map ..
  walk_at "rd"
  intro q nq
  obtain ⟨s1, hq⟩ := al2 (o := .lst []) nq
  generalize upd H q (.lst []) = H1 at s1 hq ⊢
  refine ⟨_, rfl, ba, a.map V.int, rfl, SqT.of (s1 _ _ ha), ?_⟩
  refine for_it (walk_enumT (xs := a.map V.int)) (fun i σ H' => Nx (∃ (x y z : Option V) (ws : List V), σ = [some (.ref ba), some (.ref sa), some (.ref oa), some (.ref q), x, y, z] ∧ Same H H' ∧ H' q = some (.lst ws) ∧ Paired (ClR H') ws (altM a b c i) ∧ ws.length ≤ i)) ⟨_, _, _, [], rfl, s1, hq, (by show Paired _ [] []; exact .nil), Nat.le_refl _⟩ (fun i σ H' _ h => ?_) ?_ ?_
  · obtain ⟨_, _, _, _, _, s2, _⟩ := h.h
    exact SqT.of (s2 _ _ ha)
  · rintro i v σ H2 H2' hi ⟨x, y, z, ws, rfl, s2, hq2, prw, hw⟩ ⟨tp, vi, vx, rfl, ntp, rfl, evi, evx⟩
    rw [hla] at hi
    have evi : some (V.int (i : Int)) = some vi := evi
    obtain rfl := Option.some.inj evi
    have ea := ints_at (l := a) hi
    have eb := ints_at (l := b) (i := i) (by omega)
    have ec := ints_at (l := c) (i := i) (by omega)
    have evx : (List.map V.int a)[i]? = some vx := evx
    rw [ea] at evx
    obtain rfl := Option.some.inj evx
    obtain ⟨s3, htp⟩ := al2 (o := .tup [V.int (i : Int), V.int (a.getD i 0)]) ntp
    generalize upd H2 tp (.tup [V.int (i : Int), V.int (a.getD i 0)]) = H3 at s3 htp ⊢
    have s03 := s2.trans s3
    have h3b := s03 _ _ hb
    have h3c := s03 _ _ hc
    have hq3 := s3 _ _ hq2
    have eaA := atI_nat ea
    have ebA := atI_nat eb
    have ecA := atI_nat ec
    walk_at "rd"
    intro t1 n1
    obtain ⟨s4, ht1⟩ := al2 (o := .tup [V.int (a.getD i 0), V.int (b.getD i 0), V.int (c.getD i 0)]) n1
    generalize upd H3 t1 (.tup [V.int (a.getD i 0), V.int (b.getD i 0), V.int (c.getD i 0)]) = H4 at s4 ht1 ⊢
    have s04 := s03.trans s4
    have hq4 := s4 _ _ hq3
    have s24 := s3.trans s4
    walk_at "rd"
    intro n hn
    walk_at "rd"
    refine ifd (fun c1 => ?_) (fun c1 => ?_)
    · have c1 : n = 3 := by
        have c1 : V.int (n : Int) = V.int 3 := c1
        injection c1 with c1
        omega
      have hB : altB a b c i = true := decide_eq_true (hn.mp c1)
      walk_at "rd"
      intro t2 n2
      obtain ⟨s5, ht2⟩ := al2 (o := .tup [V.int 0, V.int (i : Nat), V.ref t1]) n2
      generalize upd H4 t2 (.tup [V.int 0, V.int (i : Nat), V.ref t1]) = H5 at s5 ht2 ⊢
      have hq5 := s5 _ _ hq4
      have ht15 := s5 _ _ ht1
      have s05 := s04.trans s5
      have s25 := s24.trans s5
      walk_at "rd"
      intro H6 e6
      have s06 : Same H H6 := fun b u e => by rw [e6, upd_ne (ne_of_none e nq)]; exact s05 b u e
      have tp' : ∀ {b : Addr} {xs : List V}, H5 b = some (.tup xs) → H6 b = some (.tup xs) := fun {b xs} e => by
        rw [e6, upd_ne (fun z => by rw [z, hq5] at e; cases e)]; exact e
      have hq6 : H6 q = some (.lst (ws ++ [V.ref t2])) := by rw [e6]; exact upd_same
      clear e6
      walk_at "rd"
      refine ⟨⟨_, _, _, _, rfl, s06, hq6, ?_, by rw [List.length_append, List.length_singleton]; omega⟩⟩
      rw [altM_succ, if_pos hB]
      exact Paired.snoc (Paired.mono (fun v x ⟨p, q', e, e1, e2⟩ => ⟨p, q', e, tp' (s25 _ _ e1), tp' (s25 _ _ e2)⟩) prw) ⟨t2, t1, rfl, tp' ht2, tp' ht15⟩
    · have hB : ¬ altB a b c i = true := fun z => c1 (by rw [hn.mpr (of_decide_eq_true z)]; rfl)
      walk_at "rd"
      refine ⟨⟨_, _, _, _, rfl, s04, hq4, ?_, by omega⟩⟩
      rw [altM_succ, if_neg hB, List.append_nil]
      exact Paired.mono (fun v x => ClR.same s24) prw
  · rintro σ H2 ⟨x, y, z, ws, rfl, s2, hq2, prw, hw⟩
    rw [hla] at prw
    walk_at "rd"
    exact k q ws H2 nq s2 hq2 prw
/-! ### row_clashes -/
def one5 (k : Int) : Cl5 := ⟨k, 0, 0, 0, 0⟩
def rclN (b s o : Option (List Int)) (by_ : Bool) : List Cl5 := match s, o with
  | none, _ => [one5 1]
  | some _, none => [one5 2]
  | some x, some y => if by_ = false then [one5 4] else match b with
    | none => addM x y x.length
    | some z => altM z x y z.length
def rclM (b s o : Option (List Int)) (by_ : Bool) : List Cl5 := if s = b ∨ o = b ∨ s = o then [] else rclN b s o by_
abbrev s_row_clashes : Stmt := top 27
theorem sc_row_clashes : FnScope ["began", "store", "own", "by_fields"] ["began", "store", "own", "by_fields"] (defScope s_row_clashes) := ⟨rfl, rfl, rfl, by decide +kernel, rfl, by decide +kernel, by decide +kernel⟩
def sp_row_clashes : Sp := fun vs H Q _ => ∃ (vb vx vo : V) (b s o : Option (List Int)) (by_ : Bool) (n : Nat), vs = [vb, vx, vo, .bl by_] ∧ OV H vb b ∧ OV H vx s ∧ OV H vo o ∧ n ≤ 100 ∧ (∀ l, b = some l → l.length = n) ∧ (∀ l, s = some l → l.length = n) ∧ (∀ l, o = some l → l.length = n) ∧
  ∀ q ws H', H q = none → Same H H' → H' q = some (.lst ws) → Paired (ClR H') ws (rclM b s o by_) → Q (.ref q) H'
theorem ok_row_clashes {f : Addr} {fd : FuncData} (T : Tp K mg ad) (c_added_clashes : Fc P w K mg base CX0 1 "added_clashes" ["store", "own"] sp_added_clashes) (c_altered_clashes : Fc P w K mg base CX0 1 "altered_clashes" ["began", "store", "own"] sp_altered_clashes)
    (F : Fun K "row_clashes" "row_clashes" s_row_clashes f fd) : FnOk P w K mg base CX0 2 f fd ["began", "store", "own", "by_fields"] sp_row_clashes := by
  refine F.ok sc_row_clashes (fun vs H Q E h => ?_) (fun cdv A outer s H vs Q E hr h => ⟨_, (pss_cons (ps_if (PW.pt (pw_or (pt_cmpR (op_eqO hr.units) (pv 1) (pv 0) (nomark _)) (pw_or (pt_cmpR (op_eqO hr.units) (pv 2) (pv 0) (nomark _)) (pw_or1 (pt_cmpR (op_eqO hr.units) (pv 1) (pv 2) (nomark _)))))) (pss_one (ps_ret (pe_lst pa_nil))) pss_nil) (pss_cons (ps_if (pt_cmpR op_isN (pv 1) pe_non (nomark _)) (pss_one (ps_ret (pe_lst (pa_cons (pe_tup (pa_cons (pe_cst (by rfl) T.k_STORE_REMOVED) (pa_cons pe_int (pa_cons (pe_tup (pa_cons pe_int (pa_cons pe_int (pa_cons pe_int pa_nil)))) pa_nil)))) pa_nil)))) pss_nil) (pss_cons (ps_if (pt_cmpR op_isN (pv 2) pe_non (nomark _)) (pss_one (ps_ret (pe_lst (pa_cons (pe_tup (pa_cons (pe_cst (by rfl) T.k_SESSION_REMOVED) (pa_cons pe_int (pa_cons (pe_tup (pa_cons pe_int (pa_cons pe_int (pa_cons pe_int pa_nil)))) pa_nil)))) pa_nil)))) pss_nil) (pss_cons (ps_if (pt_not (pt_val (pv 3))) (pss_one (ps_ret (pe_lst (pa_cons (pe_tup (pa_cons (pe_cst (by rfl) T.k_WHOLE_ROW) (pa_cons pe_int (pa_cons (pe_tup (pa_cons pe_int (pa_cons pe_int (pa_cons pe_int pa_nil)))) pa_nil)))) pa_nil)))) pss_nil) (pss_cons (ps_if (pt_cmpR op_isN (pv 0) pe_non (nomark _)) (pss_one (ps_ret (pe_fc c_added_clashes (hr.mono (by decide)) (by rfl) (pa_cons (pv 1) (pa_cons (pv 2) pa_nil))))) pss_nil) (pss_one (ps_ret (pe_fc c_altered_clashes (hr.mono (by decide)) (by rfl) (pa_cons (pv 0) (pa_cons (pv 1) (pa_cons (pv 2) pa_nil))))))))))), ?_⟩)
  · obtain ⟨vb, vx, vo, b, s, o, by_, n, rfl, _⟩ := h
    rfl
  obtain ⟨vb, vx, vo, b, s, o, by_, n, rfl, hb, hs, ho, hn, l1, l2, l3, k⟩ := h
  have k1 := okRow s b
  have k2 := okRow o b
  have k3 := okRow s o
  -- nothing
  have nil : rclM b s o by_ = [] → ∀ q, H q = none → Q (.ref q) (upd H q (.lst [])) := fun e q nq => k q [] _ nq (al2 nq).1 upd_same (by rw [e]; exact .nil)
  have one : ∀ (kd : Int) (p q : Addr) (H1 : Hp), rclM b s o by_ = [one5 kd] → H q = none → Same H H1 → H1 p = some (.tup [.int kd, .int 0, .ref q]) → H1 q = some (.tup [.int 0, .int 0, .int 0]) → ∀ l, H1 l = none → Q (.ref l) (upd H1 l (.lst [.ref p])) := fun kd p q H1 e nq s1 h1 h2 l nl => by
    have s2 := (al2 (o := .lst [.ref p]) nl).1
    refine k l [.ref p] _ (fresh_of (as := []) (Kp.of_same s1) nl (by simp)) (s1.trans s2) upd_same ?_
    rw [e]
    exact .cons ⟨p, q, rfl, s2 _ _ h1, s2 _ _ h2⟩ .nil
  walk_at "rd"
  refine ifd (fun c1 => ?_) (fun c1 => ?_)
  · have e0 : rclM b s o by_ = [] := if_pos (.inl (oD_inj.mp c1))
    walk_at "rd"
    exact nil e0
  walk_at "rd"
  refine ifd (fun c2 => ?_) (fun c2 => ?_)
  · have e0 : rclM b s o by_ = [] := if_pos (.inr (.inl (oD_inj.mp c2)))
    walk_at "rd"
    exact nil e0
  walk_at "rd"
  refine ifd (fun c3 => ?_) (fun c3 => ?_)
  · have e0 : rclM b s o by_ = [] := if_pos (.inr (.inr (oD_inj.mp c3)))
    walk_at "rd"
    exact nil e0
  have hno : ¬ (s = b ∨ o = b ∨ s = o) := fun z => by
    rcases z with z | z | z
    · exact c1 (oD_inj.mpr z)
    · exact c2 (oD_inj.mpr z)
    · exact c3 (oD_inj.mpr z)
  have eM : rclM b s o by_ = rclN b s o by_ := if_neg hno
  walk_at "rd"
  refine ifd (fun c4 => ?_) (fun c4 => ?_)
  · have e4 : s = none := hs.non.mp c4
    have eM : rclM b s o by_ = [one5 1] := by rw [eM, e4]; rfl
    walk_at "rd"
    intro t1 n1
    obtain ⟨s1, ht1⟩ := al2 (o := .tup [V.int 0, V.int 0, V.int 0]) n1
    generalize upd H t1 (.tup [V.int 0, V.int 0, V.int 0]) = H1 at s1 ht1 ⊢
    walk_at "rd"
    intro t2 n2
    obtain ⟨s2, ht2⟩ := al2 (o := .tup [V.int 1, V.int 0, V.ref t1]) n2
    generalize upd H1 t2 (.tup [V.int 1, V.int 0, V.ref t1]) = H2 at s2 ht2 ⊢
    walk_at "rd"
    exact one 1 t2 t1 H2 eM n1 (s1.trans s2) ht2 (s2 _ _ ht1)
  have hs1 : s ≠ none := fun z => c4 (hs.non.mpr z)
  obtain ⟨x, rfl⟩ : ∃ x, s = some x := by
    cases s with
    | none => exact absurd rfl hs1
    | some x => exact ⟨x, rfl⟩
  walk_at "rd"
  refine ifd (fun c5 => ?_) (fun c5 => ?_)
  · have e5 : o = none := ho.non.mp c5
    have eM : rclM b (some x) o by_ = [one5 2] := by rw [eM, e5]; rfl
    walk_at "rd"
    intro t1 n1
    obtain ⟨s1, ht1⟩ := al2 (o := .tup [V.int 0, V.int 0, V.int 0]) n1
    generalize upd H t1 (.tup [V.int 0, V.int 0, V.int 0]) = H1 at s1 ht1 ⊢
    walk_at "rd"
    intro t2 n2
    obtain ⟨s2, ht2⟩ := al2 (o := .tup [V.int 2, V.int 0, V.ref t1]) n2
    generalize upd H1 t2 (.tup [V.int 2, V.int 0, V.ref t1]) = H2 at s2 ht2 ⊢
    walk_at "rd"
    exact one 2 t2 t1 H2 eM n1 (s1.trans s2) ht2 (s2 _ _ ht1)
  have ho1 : o ≠ none := fun z => c5 (ho.non.mpr z)
  obtain ⟨y, rfl⟩ : ∃ y, o = some y := by
    cases o with
    | none => exact absurd rfl ho1
    | some y => exact ⟨y, rfl⟩
  walk_at "rd"
  refine ifnb (b := by_) (fun c6 => ?_) (fun c6 => ?_)
  · have eM : rclM b (some x) (some y) by_ = [one5 4] := by rw [eM]; exact if_pos c6
    walk_at "rd"
    intro t1 n1
    obtain ⟨s1, ht1⟩ := al2 (o := .tup [V.int 0, V.int 0, V.int 0]) n1
    generalize upd H t1 (.tup [V.int 0, V.int 0, V.int 0]) = H1 at s1 ht1 ⊢
    walk_at "rd"
    intro t2 n2
    obtain ⟨s2, ht2⟩ := al2 (o := .tup [V.int 4, V.int 0, V.ref t1]) n2
    generalize upd H1 t2 (.tup [V.int 4, V.int 0, V.ref t1]) = H2 at s2 ht2 ⊢
    walk_at "rd"
    exact one 4 t2 t1 H2 eM n1 (s1.trans s2) ht2 (s2 _ _ ht1)
  have lx := l2 x rfl
  have ly := l3 y rfl
  obtain ⟨xa, rfl, hxa⟩ := hs
  obtain ⟨ya, rfl, hya⟩ := ho
  walk_at "rd"
  refine ifd (fun c7 => ?_) (fun c7 => ?_)
  · have e7 : b = none := hb.non.mp c7
    have eM : rclM b (some x) (some y) by_ = addM x y x.length := by rw [eM, e7, c6]; rfl
    rw [eM] at k
    walk_at "rd"
    exact k
  · have hb1 : b ≠ none := fun z => c7 (hb.non.mpr z)
    obtain ⟨z, rfl⟩ : ∃ z, b = some z := by
      cases b with
      | none => exact absurd rfl hb1
      | some z => exact ⟨z, rfl⟩
    have lz := l1 z rfl
    obtain ⟨za, rfl, hza⟩ := hb
    have eM : rclM (some z) (some x) (some y) by_ = altM z x y z.length := by rw [eM, c6]; rfl
    rw [eM] at k
    walk_at "rd"
    exact k
end Tw
namespace Tw
open PySem PySem.Spec PyProof.Rows L2
open VauowBase (findRow Db tableAt)

variable {P : Program} {w : World} {K : PySem.W.Frag} {mg : Str → Option Value} {base : Heap} {ad : Ads}
/-! ### rows by ids -/
def vo (rs : List VauowBase.Row) (i : Nat) : Option (List Int) := (findRow rs i).map (·.vals)
theorem get_ov {H : Hp} {a : Addr} {rs : List VauowBase.Row} (h : TabD H a rs) (i : Nat) : ∃ o, DGet H a (.int (i : Int)) o ∧ OV H (o.getD .non) (vo rs i) := by
  obtain ⟨kvs, e, p⟩ := h.ex
  refine ⟨valV kvs (.inl (i : Int)), DGet.k (k := .inl (i : Int)) e, ?_⟩
  cases hf : findRow rs i with
  | none =>
    rw [key_none p (.inr (by rw [Int.toNat_natCast]; exact hf))]
    unfold vo
    rw [hf]; exact rfl
  | some r =>
    obtain ⟨ra, e1, e2⟩ := key_some p hf
    rw [e1]
    unfold vo
    rw [hf]; exact ⟨ra, rfl, e2⟩
theorem ids2_len {rs1 rs2 : List VauowBase.Row} (h1 : rs1.length ≤ 8) (h2 : rs2.length ≤ 8) : (ids2 rs1 rs2).length ≤ 16 := by
  have := nat_nodup_len (ids2 rs1 rs2) (rs1.map (·.id) ++ rs2.map (·.id)) ((ids2_ris rs1 rs2).imp fun h => Nat.ne_of_lt h) fun x hx => by
    rw [List.mem_append, List.mem_map, List.mem_map]
    exact ids2_mem.mp hx
  rw [List.length_append, List.length_map, List.length_map] at this
  omega
theorem flat_len {α β : Type} {f : α → List β} {c : Nat} : ∀ {l : List α}, (∀ x ∈ l, (f x).length ≤ c) → (l.flatMap f).length ≤ l.length * c
  | [], _ => Nat.zero_le _
  | x :: l, h => by
    rw [List.flatMap_cons, List.length_append, List.length_cons, Nat.succ_mul]
    have := h x (by simp)
    have := flat_len (f := f) (c := c) (l := l) fun y hy => h y (by simp [hy])
    omega
theorem rclM_len {b s o : Option (List Int)} {by_ : Bool} {n : Nat} (l1 : ∀ l, b = some l → l.length ≤ n) (l2 : ∀ l, s = some l → l.length ≤ n) : (rclM b s o by_).length ≤ n + 1 := by
  unfold rclM
  split
  · exact Nat.zero_le _
  cases s with
  | none => show 1 ≤ _; omega
  | some x =>
    cases o with
    | none => show 1 ≤ _; omega
    | some y =>
      by_cases c : by_ = false
      · rw [show rclN b (some x) (some y) by_ = [one5 4] from if_pos c]
        show 1 ≤ _; omega
      cases b with
      | none =>
        rw [show rclN none (some x) (some y) by_ = addM x y x.length from if_neg c]
        unfold addM
        rw [List.length_map]
        have := List.length_filter_le (fun c => x.getD c 0 != y.getD c 0) (List.range x.length)
        rw [List.length_range] at this
        have := l2 x rfl
        omega
      | some z =>
        rw [show rclN (some z) (some x) (some y) by_ = altM z x y z.length from if_neg c]
        unfold altM
        rw [List.length_map]
        have := List.length_filter_le (altB z x y) (List.range z.length)
        rw [List.length_range] at this
        have := l1 z rfl
        omega
def IntsR (H : Hp) (v : V) (xs : List Int) : Prop := ∃ a, v = .ref a ∧ H a = some (.tup (xs.map V.int))
theorem IntsR.same {H H' : Hp} (s : Same H H') {v : V} {xs : List Int} (h : IntsR H v xs) : IntsR H' v xs := by
  obtain ⟨a, e, h⟩ := h
  exact ⟨a, e, s _ _ h⟩
/-! ### find_clashes -/
def row7 (t i : Nat) (c : Cl5) : List Int := [c.kind, (t : Int), (i : Int), c.col, c.a, c.b, c.c]
def fc1 (by_ : Bool) (t : Nat) (b s o : List VauowBase.Row) (i : Nat) : List (List Int) := (rclM (vo b i) (vo s i) (vo o i) by_).map (row7 t i)
def fcT (by_ : Bool) (b s o : Db) (t : Nat) : List (List Int) := (ids2 (tableAt s t) (tableAt o t)).flatMap (fc1 by_ t (tableAt b t) (tableAt s t) (tableAt o t))
def fcM (by_ : Bool) (b s o : Db) (n : Nat) : List (List Int) := (List.range n).flatMap (fcT by_ b s o)
theorem fcM_succ (by_ : Bool) (b s o : Db) (n : Nat) : fcM by_ b s o (n + 1) = fcM by_ b s o n ++ fcT by_ b s o n := by
  unfold fcM
  rw [List.range_succ, List.flatMap_append, List.flatMap_singleton]
theorem vo_len {n : Nat} {rs : List VauowBase.Row} (t : TO n rs) {i : Nat} {l : List Int} (h : vo rs i = some l) : l.length = n := by
  unfold vo at h
  obtain ⟨r, hr, rfl⟩ := Option.map_eq_some_iff.mp h
  exact (t.rows r (find_mem hr).1).len
theorem fc1_len {by_ : Bool} {t n : Nat} {b s o : List VauowBase.Row} (hb : TO n b) (hs : TO n s) (hn : n ≤ 4) (i : Nat) : (fc1 by_ t b s o i).length ≤ 5 := by
  unfold fc1
  rw [List.length_map]
  have := rclM_len (o := vo o i) (by_ := by_) (n := n) (fun l h => Nat.le_of_eq (vo_len hb (i := i) h)) (fun l h => Nat.le_of_eq (vo_len hs (i := i) h))
  omega
theorem at_do {sch : VauowBase.Schema} {d : Db} (dd : DO sch d) {t : Nat} (ht : t < sch.length) : ∃ tb, sch[t]? = some tb ∧ TO tb.columns.length (tableAt d t) := by
  obtain ⟨rs, hdi⟩ : ∃ z, d[t]? = some z := ⟨d[t]'(by rw [dd.len]; exact ht), by simp [show t < d.length by rw [dd.len]; exact ht]⟩
  have e : tableAt d t = rs := by unfold tableAt; rw [hdi]; rfl
  exact ⟨sch[t], by simp [ht], by rw [e]; exact dd.tabs t rs _ hdi (by simp [ht])⟩
theorem fcT_len {by_ : Bool} {sch : VauowBase.Schema} {b s o : Db} (gs : GS sch) (db : DO sch b) (ds : DO sch s) (do_ : DO sch o) {t : Nat} (ht : t < sch.length) : (fcT by_ b s o t).length ≤ 100 := by
  obtain ⟨tb, h1, t1⟩ := at_do db ht
  obtain ⟨tb2, h2, t2⟩ := at_do ds ht
  obtain ⟨tb3, h3, t3⟩ := at_do do_ ht
  rw [h1] at h2 h3
  obtain rfl := Option.some.inj h2
  obtain rfl := Option.some.inj h3
  have gl := (gs.tabs tb (List.mem_of_getElem? h1)).len
  have := flat_len (f := fc1 by_ t (tableAt b t) (tableAt s t) (tableAt o t)) (c := 5) (l := ids2 (tableAt s t) (tableAt o t)) fun x _ => fc1_len t1 t2 gl x
  have := ids2_len t2.len t3.len
  unfold fcT
  omega
abbrev s_find_clashes : Stmt := top 26
theorem sc_find_clashes : FnScope ["began", "store", "own", "by_fields", "found", "number", "row_id", "then", "there", "here", "kind", "column", "values"] ["began", "store", "own", "by_fields"] (defScope s_find_clashes) := ⟨rfl, rfl, rfl, by decide +kernel, rfl, by decide +kernel, by decide +kernel⟩
def sp_find_clashes : Sp := fun vs H Q _ => ∃ (ba sa oa : Addr) (b s o : Db) (by_ : Bool) (sch : VauowBase.Schema), vs = [.ref ba, .ref sa, .ref oa, .bl by_] ∧ DbAt H ba b ∧ DbAt H sa s ∧ DbAt H oa o ∧ GS sch ∧ DO sch b ∧ DO sch s ∧ DO sch o ∧
  ∀ q ws H', H q = none → Same H H' → H' q = some (.lst ws) → Paired (IntsR H') ws (fcM by_ b s o sch.length) → Q (.ref q) H'
theorem ok_find_clashes {f : Addr} {fd : FuncData} (T : Tp K mg ad) (c_row_clashes : Fc P w K mg base CX0 2 "row_clashes" ["began", "store", "own", "by_fields"] sp_row_clashes)
    (F : Fun K "find_clashes" "find_clashes" s_find_clashes f fd) : FnOk P w K mg base CX0 3 f fd ["began", "store", "own", "by_fields"] sp_find_clashes := by
  refine F.ok sc_find_clashes (fun vs H Q E h => ?_) (fun cdv A outer s H vs Q E hr h => ⟨_, (pss_cons (ps_set (i := 4) sc_find_clashes.nd rfl (.inl rfl) (pe_lst pa_nil)) (pss_cons (ps_forO PassesOwn.never rfl (pi_range1 rfl T.b_range (pa_cons (pe_callB call_len_seq (by rfl) T.b_len (by decide +kernel) (pa_cons (pv 0) pa_nil)) pa_nil)) (pg_name (i := 5) sc_find_clashes.nd rfl (.inl rfl)) (pss_one (ps_forO PassesOwn.never rfl (pi_list (pe_keys (pe_ix ix_list (pv 1) (pv 5) (fun _ _ => rfl)) (pe_ix ix_list (pv 2) (pv 5) (fun _ _ => rfl)) T.b_sorted T.b_set)) (pg_name (i := 6) sc_find_clashes.nd rfl (.inl rfl)) (pss_cons (ps_set (i := 7) sc_find_clashes.nd rfl (.inl rfl) (pe_dget1 (hu_of hr) (pe_ix ix_list (pv 0) (pv 5) (fun _ _ => rfl)) (pv 6) ⟨rfl, rfl, rfl, rfl⟩)) (pss_cons (ps_set (i := 8) sc_find_clashes.nd rfl (.inl rfl) (pe_dget1 (hu_of hr) (pe_ix ix_list (pv 1) (pv 5) (fun _ _ => rfl)) (pv 6) ⟨rfl, rfl, rfl, rfl⟩)) (pss_cons (ps_set (i := 9) sc_find_clashes.nd rfl (.inl rfl) (pe_dget1 (hu_of hr) (pe_ix ix_list (pv 2) (pv 5) (fun _ _ => rfl)) (pv 6) ⟨rfl, rfl, rfl, rfl⟩)) (pss_one (ps_forO PassesOwn.never rfl (pi_list (pe_fc c_row_clashes (hr.mono (by decide)) (by rfl) (pa_cons (pv 7) (pa_cons (pv 8) (pa_cons (pv 9) (pa_cons (pv 3) pa_nil)))))) (pg_tup (by rfl) (pgs_cons (pg_name (i := 10) sc_find_clashes.nd rfl (.inl rfl)) (pgs_cons (pg_name (i := 11) sc_find_clashes.nd rfl (.inl rfl)) (pgs_cons (pg_name (i := 12) sc_find_clashes.nd rfl (.inl rfl)) pgs_nil)))) (pss_one (ps_expr (pe_bm PySem.F.plainAttrs_list PySem.F.slot_list_append PySem.F.type_list_append mt_appL (pv 4) (pa_cons (pe_op op_catT (pe_tup (pa_cons (pv 10) (pa_cons (pv 5) (pa_cons (pv 6) (pa_cons (pv 11) pa_nil))))) (pv 12)) pa_nil)))))))))))) (pss_one (ps_ret (pv 4))))), ?_⟩)
  · obtain ⟨ba, sa, oa, b, s, o, by_, sch, rfl, _⟩ := h
    rfl
  obtain ⟨ba, sa, oa, b, s, o, by_, sch, rfl, hb, hs, ho, gs, db, ds, do_, k⟩ := h
  obtain ⟨bas, hba, pb⟩ := hb.ex
  obtain ⟨sas, hsa, ps⟩ := hs.ex
  obtain ⟨oas, hoa, po⟩ := ho.ex
  have hlb : (bas.map V.ref).length = sch.length := by rw [List.length_map, Paired.length pb, db.len]
  have hsl := gs.len
  walk_at "rd"
  intro q nq
  obtain ⟨s1, hq⟩ := al2 (o := .lst []) nq
  generalize upd H q (.lst []) = H1 at s1 hq ⊢
  refine ⟨_, rfl, ba, bas.map V.ref, rfl, .inl (SqL.of (s1 _ _ hba)), _, rfl, Int.le_trans (by decide) (Int.natCast_nonneg _), ?_, ?_⟩
  · rw [hlb]; exact Int.lt_of_le_of_lt (show ((sch.length : Nat) : Int) ≤ 4 by omega) (by decide)
  rw [hlb, Int.toNat_natCast]
  refine for_it (walk_range (n := sch.length)) (fun i σ H' => Nx (∃ (x5 x6 x7 x8 x9 x10 x11 x12 : Option V) (ws : List V), σ = [some (.ref ba), some (.ref sa), some (.ref oa), some (.bl by_), some (.ref q), x5, x6, x7, x8, x9, x10, x11, x12] ∧ Same H H' ∧ H' q = some (.lst ws) ∧ Paired (IntsR H') ws (fcM by_ b s o i))) ⟨_, _, _, _, _, _, _, _, [], rfl, s1, hq, (by show Paired _ [] []; exact .nil)⟩ (fun _ _ _ _ _ => trivial) ?_ ?_
  · rintro i v σ H2 H2' hi ⟨x5, x6, x7, x8, x9, x10, x11, x12, ws, rfl, s2, hq2, prw⟩ ⟨rfl, hv⟩
    have hv : v = V.int (0 + ((i : Nat) : Int)) := hv
    rw [Int.zero_add] at hv
    subst hv
    obtain ⟨tb, hsi⟩ : ∃ z, sch[i]? = some z := ⟨sch[i]'hi, by simp [hi]⟩
    have gt := gs.tabs tb (List.mem_of_getElem? hsi)
    have at_ : ∀ {das : List Addr} {d : Db} {H : Hp}, Paired (TabD H) das d → DO sch d → ∃ da, das[i]? = some da ∧ TabD H da (tableAt d i) ∧ TO tb.columns.length (tableAt d i) ∧ atI (das.map V.ref) (i : Int) = some (V.ref da) ∧ atI (das.map V.ref) (0 + (i : Int)) = some (V.ref da) := fun {das d H} p dd => by
      obtain ⟨rs, hdi⟩ : ∃ z, d[i]? = some z := ⟨d[i]'(by rw [dd.len]; exact hi), by simp [show i < d.length by rw [dd.len]; exact hi]⟩
      obtain ⟨da, hda, ht⟩ := paired_get p hdi
      have e : tableAt d i = rs := by unfold tableAt; rw [hdi]; rfl
      refine ⟨da, hda, by rw [e]; exact ht, by rw [e]; exact dd.tabs i rs tb hdi hsi, atI_nat (by rw [List.getElem?_map, hda]; rfl), by rw [Int.zero_add]; exact atI_nat (by rw [List.getElem?_map, hda]; rfl)⟩
    obtain ⟨ta, hta, tab, tob, atb, atb0⟩ := at_ pb db
    obtain ⟨tsa, htsa, tas, tos, ats, ats0⟩ := at_ ps ds
    obtain ⟨toa, htoa, tao, too, ato, ato0⟩ := at_ po do_
    have hq0 := hq2
    refine ⟨?_⟩
    have hsa2 := s2 _ _ hsa
    have hoa2 := s2 _ _ hoa
    have tas2 := tas.same s2
    have tao2 := tao.same s2
    have tis := tos.ti
    have tio := too.ti
    walk_at "rd"
    intro H3 s3
    have hoa3 := s3 _ _ hoa2
    have tao3 := tao2.same s3
    walk_at "rd"
    intro p H4 np s4 hp
    have hpq : p ≠ q := fun z => by rw [z, hq2] at np; cases np
    have hq4 := s4 _ _ hq2
    have s04 := s2.trans s4
    have hids : ((ids2 (tableAt s i) (tableAt o i)).map fun (i : Nat) => V.int (i : Int)).length = (ids2 (tableAt s i) (tableAt o i)).length := List.length_map ..
    have hidl := ids2_len tos.len too.len
    have gcl := gt.len
    have lenA : (fcM by_ b s o i).length ≤ 400 := by
      unfold fcM
      refine Nat.le_trans (flat_len (c := 100) fun t ht => ?_) (by rw [List.length_range]; omega)
      have ht := List.mem_range.mp ht
      exact fcT_len gs db ds do_ (by omega)
    refine ⟨p, rfl, ⟨_, SqL.of hp⟩, for_it (walk_list (xs := (ids2 (tableAt s i) (tableAt o i)).map fun (i : Nat) => V.int (i : Int))) (fun j σ H' => Nx (∃ (x6 x7 x8 x9 x10 x11 x12 : Option V) (ws : List V), σ = [some (.ref ba), some (.ref sa), some (.ref oa), some (.bl by_), some (.ref q), some (.int (i : Nat)), x6, x7, x8, x9, x10, x11, x12] ∧ Same H H' ∧ H' q = some (.lst ws) ∧ H' p = some (.lst ((ids2 (tableAt s i) (tableAt o i)).map fun (i : Nat) => V.int (i : Int))) ∧ Paired (IntsR H') ws (fcM by_ b s o i ++ ((ids2 (tableAt s i) (tableAt o i)).take j).flatMap (fc1 by_ i (tableAt b i) (tableAt s i) (tableAt o i))))) ⟨_, _, _, _, _, _, _, ws, rfl, s04, hq4, hp, by rw [List.take_zero, List.flatMap_nil, List.append_nil]; exact Paired.mono (fun v x => IntsR.same s4) prw⟩ (fun j σ H' _ h => ?_) ?_ ?_⟩
    · obtain ⟨_, _, _, _, _, _, _, _, _, _, _, hp', _⟩ := h.h
      exact SqL.of hp'
    · rintro j v σ H5 H5' hj ⟨x6, x7, x8, x9, x10, x11, x12, ws5, rfl, s5, hq5, hp5, prw5⟩ ⟨rfl, hv⟩
      obtain ⟨id, hid, rfl⟩ := map_get hv
      rw [hids] at hj
      have hba5 := s5 _ _ hba
      have hsa5 := s5 _ _ hsa
      have hoa5 := s5 _ _ hoa
      obtain ⟨ob, gb, vb⟩ := get_ov (tab.same s5) id
      obtain ⟨os, gs', vs⟩ := get_ov (tas.same s5) id
      obtain ⟨oo, go, vo'⟩ := get_ov (tao.same s5) id
      have ib : IsD H5' ta := by obtain ⟨kv, e, _⟩ := (tab.same s5).ex; exact .inl ⟨kv, .inl e⟩
      have is : IsD H5' tsa := by obtain ⟨kv, e, _⟩ := (tas.same s5).ex; exact .inl ⟨kv, .inl e⟩
      have io : IsD H5' toa := by obtain ⟨kv, e, _⟩ := (tao.same s5).ex; exact .inl ⟨kv, .inl e⟩
      have hn4 : tb.columns.length ≤ 100 := by omega
      have w1 := fun l => vo_len tob (i := id) (l := l)
      have w2 := fun l => vo_len tos (i := id) (l := l)
      have w3 := fun l => vo_len too (i := id) (l := l)
      walk_at "rd"
      refine ⟨?_⟩
      walk_at "rd"
      intro rq wr H6 nrq s6 hrq prr
      have hrq5 : rq ≠ q := fun z => by rw [z, hq5] at nrq; cases nrq
      have hrp5 : rq ≠ p := fun z => by rw [z, hp5] at nrq; cases nrq
      have hq6 := s6 _ _ hq5
      have hp6 := s6 _ _ hp5
      have s06 := s5.trans s6
      have e1 : (ids2 (tableAt s i) (tableAt o i)).take (j + 1) = (ids2 (tableAt s i) (tableAt o i)).take j ++ [id] := take_more hid
      have f5 := fc1_len (by_ := by_) (t := i) (b := tableAt b i) (s := tableAt s i) (o := tableAt o i) tob tos gcl
      have lenB : (((ids2 (tableAt s i) (tableAt o i)).take j).flatMap (fc1 by_ i (tableAt b i) (tableAt s i) (tableAt o i))).length ≤ 80 := by
        have := flat_len (f := fc1 by_ i (tableAt b i) (tableAt s i) (tableAt o i)) (c := 5) (l := (ids2 (tableAt s i) (tableAt o i)).take j) fun x _ => f5 x
        rw [List.length_take] at this
        omega
      have lenC : (rclM (vo (tableAt b i) id) (vo (tableAt s i) id) (vo (tableAt o i) id) by_).length ≤ 5 := by
        have := f5 id
        unfold fc1 at this
        rwa [List.length_map] at this
      have hwr := Paired.length prr
      refine ⟨_, rfl, ⟨_, SqL.of hrq⟩, for_it (walk_list (xs := wr)) (fun m σ H' => Nx (∃ (x10 x11 x12 : Option V) (ws : List V), σ = [some (.ref ba), some (.ref sa), some (.ref oa), some (.bl by_), some (.ref q), some (.int (i : Nat)), some (.int (id : Nat)), some (ob.getD V.non), some (os.getD V.non), some (oo.getD V.non), x10, x11, x12] ∧ Same H H' ∧ H' q = some (.lst ws) ∧ H' p = some (.lst ((ids2 (tableAt s i) (tableAt o i)).map fun (i : Nat) => V.int (i : Int))) ∧ H' rq = some (.lst wr) ∧ Paired (ClR H') wr (rclM (vo (tableAt b i) id) (vo (tableAt s i) id) (vo (tableAt o i) id) by_) ∧
        Paired (IntsR H') ws (fcM by_ b s o i ++ ((ids2 (tableAt s i) (tableAt o i)).take j).flatMap (fc1 by_ i (tableAt b i) (tableAt s i) (tableAt o i)) ++ ((rclM (vo (tableAt b i) id) (vo (tableAt s i) id) (vo (tableAt o i) id) by_).take m).map (row7 i id)))) ⟨_, _, _, ws5, rfl, s06, hq6, hp6, hrq, prr, by rw [List.take_zero, List.map_nil, List.append_nil]; exact Paired.mono (fun v x => IntsR.same s6) prw5⟩ (fun m σ H' _ h => ?_) ?_ ?_⟩
      · obtain ⟨_, _, _, _, _, _, _, _, h', _⟩ := h.h
        exact SqL.of h'
      · rintro m v σ H7 H7' hm ⟨x10, x11, x12, ws7, rfl, s7, hq7, hp7, hrq7, prr7, prw7⟩ ⟨rfl, hv⟩
        obtain ⟨c, hc, cp, cq, rfl, hcp, hcq⟩ := paired_get' prr7 hv
        have lenW := Paired.length prw7
        rw [List.length_append, List.length_append, List.length_map, List.length_take] at lenW
        have lenW7 : ws7.length ≤ 1000 := by omega
        walk_at "rd"
        intro t1 n1
        obtain ⟨s8, ht1⟩ := al2 (o := .tup [V.int c.kind, V.int (i : Nat), V.int (id : Nat), V.int c.col]) n1
        generalize upd H7' t1 (.tup [V.int c.kind, V.int (i : Nat), V.int (id : Nat), V.int c.col]) = H8 at s8 ht1 ⊢
        have hq8 := s8 _ _ hq7
        have hcq8 := s8 _ _ hcq
        walk_at "rd"
        refine ⟨(fun z => nomatch z), by show 7 ≤ sizeLine; decide, (fun z => nomatch z), fun _ t2 n2 => ?_⟩
        obtain ⟨s9, ht2⟩ := al2 (o := .tup ([V.int c.kind, V.int (i : Nat), V.int (id : Nat), V.int c.col] ++ [V.int c.a, V.int c.b, V.int c.c])) n2
        generalize upd H8 t2 (.tup ([V.int c.kind, V.int (i : Nat), V.int (id : Nat), V.int c.col] ++ [V.int c.a, V.int c.b, V.int c.c])) = H9 at s9 ht2 ⊢
        have hq9 := s9 _ _ hq8
        have s79 := s8.trans s9
        walk_at "rd"
        intro H10 e10
        have s09 := s7.trans s79
        have s0 : Same H H10 := fun b u e => by rw [e10, upd_ne (ne_of_none e nq)]; exact s09 b u e
        have ne : ∀ {b : Addr} {u : HO}, b ≠ q → H9 b = some u → H10 b = some u := fun {b u} n e => by rw [e10, upd_ne n]; exact e
        have tp' : ∀ {b : Addr} {xs : List V}, H9 b = some (.tup xs) → H10 b = some (.tup xs) := fun {b xs} e => ne (fun z => by rw [z, hq9] at e; cases e) e
        have hq10 : H10 q = some (.lst (ws7 ++ [V.ref t2])) := by rw [e10]; exact upd_same
        have hp10 := ne hpq (s79 _ _ hp7)
        have hrq10 := ne hrq5 (s79 _ _ hrq7)
        clear e10
        walk_at "rd"
        refine ⟨⟨_, _, _, _, rfl, s0, hq10, hp10, hrq10, Paired.mono (fun v x ⟨p, q', e, e1, e2⟩ => ⟨p, q', e, tp' (s79 _ _ e1), tp' (s79 _ _ e2)⟩) prr7, ?_⟩⟩
        rw [take_more hc, List.map_append, ← List.append_assoc]
        exact Paired.snoc (Paired.mono (fun v x ⟨a, e, e1⟩ => ⟨a, e, tp' (s79 _ _ e1)⟩) prw7) ⟨t2, rfl, tp' ht2⟩
      · rintro σ H7 ⟨x10, x11, x12, ws7, rfl, s7, hq7, hp7, hrq7, prr7, prw7⟩
        rw [hwr, List.take_length] at prw7
        walk_at "rd"
        refine ⟨⟨_, _, _, _, _, _, _, ws7, rfl, s7, hq7, hp7, ?_⟩⟩
        rw [e1, List.flatMap_append, List.flatMap_singleton, ← List.append_assoc]
        exact prw7
    · rintro σ H5 ⟨x6, x7, x8, x9, x10, x11, x12, ws5, rfl, s5, hq5, hp5, prw5⟩
      rw [hids, List.take_length] at prw5
      walk_at "rd"
      refine ⟨⟨_, _, _, _, _, _, _, _, ws5, rfl, s5, hq5, ?_⟩⟩
      rw [fcM_succ]
      exact prw5
  · rintro σ H2 ⟨x5, x6, x7, x8, x9, x10, x11, x12, ws, rfl, s2, hq2, prw⟩
    walk_at "rd"
    exact k q ws H2 nq s2 hq2 prw
end Tw
namespace Tw
open PySem PySem.Spec PyProof.Rows L2
open VauowBase (findRow Db tableAt)

variable {P : Program} {w : World} {K : PySem.W.Frag} {mg : Str → Option Value} {base : Heap} {ad : Ads}
/-! ### changed_rows -/
def kdI (b o : List VauowBase.Row) (i : Nat) : Int := if (findRow b i).isSome then (if (findRow o i).isSome then 1 else 2) else 0
def ch1 (t : Nat) (b o : List VauowBase.Row) (i : Nat) : List (List Int) := if vo b i = vo o i then [] else [[kdI b o i, (t : Int), (i : Int)]]
def chT (b o : Db) (t : Nat) : List (List Int) := (ids2 (tableAt b t) (tableAt o t)).flatMap (ch1 t (tableAt b t) (tableAt o t))
def chM (b o : Db) (n : Nat) : List (List Int) := (List.range n).flatMap (chT b o)
theorem chM_succ (b o : Db) (n : Nat) : chM b o (n + 1) = chM b o n ++ chT b o n := by
  unfold chM
  rw [List.range_succ, List.flatMap_append, List.flatMap_singleton]
theorem ch1_len (t : Nat) (b o : List VauowBase.Row) (i : Nat) : (ch1 t b o i).length ≤ 1 := by
  unfold ch1
  split
  · exact Nat.zero_le _
  · exact Nat.le_refl _
theorem chT_len {sch : VauowBase.Schema} {b o : Db} (db : DO sch b) (do_ : DO sch o) {t : Nat} (ht : t < sch.length) : (chT b o t).length ≤ 16 := by
  obtain ⟨tb, h1, t1⟩ := at_do db ht
  obtain ⟨tb3, h3, t3⟩ := at_do do_ ht
  have := flat_len (f := ch1 t (tableAt b t) (tableAt o t)) (c := 1) (l := ids2 (tableAt b t) (tableAt o t)) fun x _ => ch1_len _ _ _ x
  have := ids2_len t1.len t3.len
  unfold chT
  omega
abbrev s_changed_rows : Stmt := top 24
theorem sc_changed_rows : FnScope ["began", "own", "found", "number", "row_id"] ["began", "own"] (defScope s_changed_rows) := ⟨rfl, rfl, rfl, by decide +kernel, rfl, by decide +kernel, by decide +kernel⟩
def sp_changed_rows : Sp := fun vs H Q _ => ∃ (ba oa : Addr) (b o : Db) (sch : VauowBase.Schema), vs = [.ref ba, .ref oa] ∧ DbAt H ba b ∧ DbAt H oa o ∧ GS sch ∧ DO sch b ∧ DO sch o ∧
  ∀ q ws H', H q = none → Same H H' → H' q = some (.lst ws) → Paired (IntsR H') ws (chM b o sch.length) → Q (.ref q) H'
theorem ok_changed_rows {f : Addr} {fd : FuncData} (T : Tp K mg ad) (c_change_of : Fc P w K mg base CX0 1 "change_of" ["row_id", "began", "own"] sp_change_of)
    (F : Fun K "changed_rows" "changed_rows" s_changed_rows f fd) : FnOk P w K mg base CX0 2 f fd ["began", "own"] sp_changed_rows := by
  refine F.ok sc_changed_rows (fun vs H Q E h => ?_) (fun cdv A outer s H vs Q E hr h => ⟨_, (pss_cons (ps_set (i := 2) sc_changed_rows.nd rfl (.inl rfl) (pe_lst pa_nil)) (pss_cons (ps_forO PassesOwn.never rfl (pi_range1 rfl T.b_range (pa_cons (pe_callB call_len_seq (by rfl) T.b_len (by decide +kernel) (pa_cons (pv 0) pa_nil)) pa_nil)) (pg_name (i := 3) sc_changed_rows.nd rfl (.inl rfl)) (pss_one (ps_forO PassesOwn.never rfl (pi_list (pe_keys (pe_ix ix_list (pv 0) (pv 3) (fun _ _ => rfl)) (pe_ix ix_list (pv 1) (pv 3) (fun _ _ => rfl)) T.b_sorted T.b_set)) (pg_name (i := 4) sc_changed_rows.nd rfl (.inl rfl)) (pss_one (ps_if (pt_cmpR (op_neO hr.units) (pe_dget1 (hu_of hr) (pe_ix ix_list (pv 0) (pv 3) (fun _ _ => rfl)) (pv 4) ⟨rfl, rfl, rfl, rfl⟩) (pe_dget1 (hu_of hr) (pe_ix ix_list (pv 1) (pv 3) (fun _ _ => rfl)) (pv 4) ⟨rfl, rfl, rfl, rfl⟩) (nomark _)) (pss_one (ps_expr (pe_bm PySem.F.plainAttrs_list PySem.F.slot_list_append PySem.F.type_list_append mt_appL (pv 2) (pa_cons (pe_tup (pa_cons (pe_fc c_change_of (hr.mono (by decide)) (by rfl) (pa_cons (pv 4) (pa_cons (pe_ix ix_list (pv 0) (pv 3) (fun _ _ => rfl)) (pa_cons (pe_ix ix_list (pv 1) (pv 3) (fun _ _ => rfl)) pa_nil)))) (pa_cons (pv 3) (pa_cons (pv 4) pa_nil)))) pa_nil)))) pss_nil))))) (pss_one (ps_ret (pv 2))))), ?_⟩)
  · obtain ⟨ba, oa, b, o, sch, rfl, _⟩ := h
    rfl
  obtain ⟨ba, oa, b, o, sch, rfl, hb, ho, gs, db, do_, k⟩ := h
  obtain ⟨bas, hba, pb⟩ := hb.ex
  obtain ⟨oas, hoa, po⟩ := ho.ex
  have hlb : (bas.map V.ref).length = sch.length := by rw [List.length_map, Paired.length pb, db.len]
  have hsl := gs.len
  walk_at "rd"
  intro q nq
  obtain ⟨s1, hq⟩ := al2 (o := .lst []) nq
  generalize upd H q (.lst []) = H1 at s1 hq ⊢
  refine ⟨_, rfl, ba, bas.map V.ref, rfl, .inl (SqL.of (s1 _ _ hba)), _, rfl, Int.le_trans (by decide) (Int.natCast_nonneg _), ?_, ?_⟩
  · rw [hlb]; exact Int.lt_of_le_of_lt (show ((sch.length : Nat) : Int) ≤ 4 by omega) (by decide)
  rw [hlb, Int.toNat_natCast]
  refine for_it (walk_range (n := sch.length)) (fun i σ H' => Nx (∃ (x3 x4 : Option V) (ws : List V), σ = [some (.ref ba), some (.ref oa), some (.ref q), x3, x4] ∧ Same H H' ∧ H' q = some (.lst ws) ∧ Paired (IntsR H') ws (chM b o i))) ⟨_, _, [], rfl, s1, hq, (by show Paired _ [] []; exact .nil)⟩ (fun _ _ _ _ _ => trivial) ?_ ?_
  · rintro i v σ H2 H2' hi ⟨x3, x4, ws, rfl, s2, hq2, prw⟩ ⟨rfl, hv⟩
    have hv : v = V.int (0 + ((i : Nat) : Int)) := hv
    rw [Int.zero_add] at hv
    subst hv
    obtain ⟨tb, hsi⟩ : ∃ z, sch[i]? = some z := ⟨sch[i]'hi, by simp [hi]⟩
    have gt := gs.tabs tb (List.mem_of_getElem? hsi)
    have at_ : ∀ {das : List Addr} {d : Db} {H : Hp}, Paired (TabD H) das d → DO sch d → ∃ da, das[i]? = some da ∧ TabD H da (tableAt d i) ∧ TO tb.columns.length (tableAt d i) ∧ atI (das.map V.ref) (i : Int) = some (V.ref da) ∧ atI (das.map V.ref) (0 + (i : Int)) = some (V.ref da) := fun {das d H} p dd => by
      obtain ⟨rs, hdi⟩ : ∃ z, d[i]? = some z := ⟨d[i]'(by rw [dd.len]; exact hi), by simp [show i < d.length by rw [dd.len]; exact hi]⟩
      obtain ⟨da, hda, ht⟩ := paired_get p hdi
      have e : tableAt d i = rs := by unfold tableAt; rw [hdi]; rfl
      refine ⟨da, hda, by rw [e]; exact ht, by rw [e]; exact dd.tabs i rs tb hdi hsi, atI_nat (by rw [List.getElem?_map, hda]; rfl), by rw [Int.zero_add]; exact atI_nat (by rw [List.getElem?_map, hda]; rfl)⟩
    obtain ⟨ta, hta, tab, tob, atb, atb0⟩ := at_ pb db
    obtain ⟨toa, htoa, tao, too, ato, ato0⟩ := at_ po do_
    refine ⟨?_⟩
    have hba2 := s2 _ _ hba
    have hoa2 := s2 _ _ hoa
    have tab2 := tab.same s2
    have tao2 := tao.same s2
    have tib := tob.ti
    have tio := too.ti
    walk_at "rd"
    intro H3 s3
    have hoa3 := s3 _ _ hoa2
    have tao3 := tao2.same s3
    walk_at "rd"
    intro p H4 np s4 hp
    have hpq : p ≠ q := fun z => by rw [z, hq2] at np; cases np
    have hq4 := s4 _ _ hq2
    have s04 := s2.trans s4
    have hids : ((ids2 (tableAt b i) (tableAt o i)).map fun (i : Nat) => V.int (i : Int)).length = (ids2 (tableAt b i) (tableAt o i)).length := List.length_map ..
    have hidl := ids2_len tob.len too.len
    have lenA : (chM b o i).length ≤ 64 := by
      unfold chM
      refine Nat.le_trans (flat_len (c := 16) fun t ht => ?_) (by rw [List.length_range]; omega)
      have ht := List.mem_range.mp ht
      exact chT_len db do_ (by omega)
    refine ⟨p, rfl, ⟨_, SqL.of hp⟩, for_it (walk_list (xs := (ids2 (tableAt b i) (tableAt o i)).map fun (i : Nat) => V.int (i : Int))) (fun j σ H' => Nx (∃ (x4 : Option V) (ws : List V), σ = [some (.ref ba), some (.ref oa), some (.ref q), some (.int (i : Nat)), x4] ∧ Same H H' ∧ H' q = some (.lst ws) ∧ H' p = some (.lst ((ids2 (tableAt b i) (tableAt o i)).map fun (i : Nat) => V.int (i : Int))) ∧ Paired (IntsR H') ws (chM b o i ++ ((ids2 (tableAt b i) (tableAt o i)).take j).flatMap (ch1 i (tableAt b i) (tableAt o i))))) ⟨_, ws, rfl, s04, hq4, hp, by rw [List.take_zero, List.flatMap_nil, List.append_nil]; exact Paired.mono (fun v x => IntsR.same s4) prw⟩ (fun j σ H' _ h => ?_) ?_ ?_⟩
    · obtain ⟨_, _, _, _, _, hp', _⟩ := h.h
      exact SqL.of hp'
    · rintro j v σ H5 H5' hj ⟨x4, ws5, rfl, s5, hq5, hp5, prw5⟩ ⟨rfl, hv⟩
      obtain ⟨id, hid, rfl⟩ := map_get hv
      rw [hids] at hj
      have hba5 := s5 _ _ hba
      have hoa5 := s5 _ _ hoa
      have tab5 := tab.same s5
      have tao5 := tao.same s5
      obtain ⟨ob, gb, vb⟩ := get_ov tab5 id
      obtain ⟨oo, go, vo'⟩ := get_ov tao5 id
      have ib : IsD H5' ta := by obtain ⟨kv, e, _⟩ := tab5.ex; exact .inl ⟨kv, .inl e⟩
      have io : IsD H5' toa := by obtain ⟨kv, e, _⟩ := tao5.ex; exact .inl ⟨kv, .inl e⟩
      have okr := okRow (vo (tableAt b i) id) (vo (tableAt o i) id)
      have e1 : (ids2 (tableAt b i) (tableAt o i)).take (j + 1) = (ids2 (tableAt b i) (tableAt o i)).take j ++ [id] := take_more hid
      have lenB : (((ids2 (tableAt b i) (tableAt o i)).take j).flatMap (ch1 i (tableAt b i) (tableAt o i))).length ≤ 16 := by
        have := flat_len (f := ch1 i (tableAt b i) (tableAt o i)) (c := 1) (l := (ids2 (tableAt b i) (tableAt o i)).take j) fun x _ => ch1_len _ _ _ x
        rw [List.length_take] at this
        omega
      have lenW := Paired.length prw5
      rw [List.length_append] at lenW
      have lenW5 : ws5.length ≤ 100 := by omega
      walk_at "rd"
      refine ifnd (fun c1 => ?_) (fun c1 => ?_)
      · have c1 : ¬ vo (tableAt b i) id = vo (tableAt o i) id := fun z => c1 (by rw [z])
        have eC : ch1 i (tableAt b i) (tableAt o i) id = [[kdI (tableAt b i) (tableAt o i) id, (i : Int), (id : Int)]] := if_neg c1
        walk_at "rd"
        intro t1 n1
        obtain ⟨s6, ht1⟩ := al2 (o := .tup [V.int (kdI (tableAt b i) (tableAt o i) id), V.int (i : Nat), V.int (id : Nat)]) n1
        have e0 : upd H5' t1 (.tup [V.int (if (findRow (tableAt b i) id).isSome = true then (if (findRow (tableAt o i) id).isSome = true then 1 else 2) else 0), V.int (i : Nat), V.int (id : Nat)]) = upd H5' t1 (.tup [V.int (kdI (tableAt b i) (tableAt o i) id), V.int (i : Nat), V.int (id : Nat)]) := rfl
        rw [e0]
        generalize upd H5' t1 (.tup [V.int (kdI (tableAt b i) (tableAt o i) id), V.int (i : Nat), V.int (id : Nat)]) = H6 at s6 ht1 ⊢
        have hq6 := s6 _ _ hq5
        walk_at "rd"
        intro H7 e7
        have s06 := s5.trans s6
        have s0 : Same H H7 := fun b u e => by rw [e7, upd_ne (ne_of_none e nq)]; exact s06 b u e
        have ne : ∀ {b : Addr} {u : HO}, b ≠ q → H6 b = some u → H7 b = some u := fun {b u} n e => by rw [e7, upd_ne n]; exact e
        have tp' : ∀ {b : Addr} {xs : List V}, H6 b = some (.tup xs) → H7 b = some (.tup xs) := fun {b xs} e => ne (fun z => by rw [z, hq6] at e; cases e) e
        have hq7 : H7 q = some (.lst (ws5 ++ [V.ref t1])) := by rw [e7]; exact upd_same
        have hp7 := ne hpq (s6 _ _ hp5)
        clear e7
        walk_at "rd"
        refine ⟨⟨_, _, rfl, s0, hq7, hp7, ?_⟩⟩
        rw [e1, List.flatMap_append, List.flatMap_singleton, eC, ← List.append_assoc]
        exact Paired.snoc (Paired.mono (fun v x ⟨a, e, e1⟩ => ⟨a, e, tp' (s6 _ _ e1)⟩) prw5) ⟨t1, rfl, tp' ht1⟩
      · have c1 : vo (tableAt b i) id = vo (tableAt o i) id := oD_inj.mp c1
        have eC : ch1 i (tableAt b i) (tableAt o i) id = [] := if_pos c1
        walk_at "rd"
        refine ⟨⟨_, _, rfl, s5, hq5, hp5, ?_⟩⟩
        rw [e1, List.flatMap_append, List.flatMap_singleton, eC, List.append_nil]
        exact prw5
    · rintro σ H5 ⟨x4, ws5, rfl, s5, hq5, hp5, prw5⟩
      rw [hids, List.take_length] at prw5
      walk_at "rd"
      refine ⟨⟨_, _, ws5, rfl, s5, hq5, ?_⟩⟩
      rw [chM_succ]
      exact prw5
  · rintro σ H2 ⟨x3, x4, ws, rfl, s2, hq2, prw⟩
    walk_at "rd"
    exact k q ws H2 nq s2 hq2 prw
end Tw
namespace Tw
open PySem PySem.Spec PyProof.Rows L2
open VauowBase (findRow Db tableAt)

variable {P : Program} {w : World} {K : PySem.W.Frag} {mg : Str → Option Value} {base : Heap} {ad : Ads}
/-! ### merged_one -/
def cD : Option Int → OD
  | none => .non
  | some k => .num k
def cV : Option Int → V
  | none => .non
  | some k => .int k
theorem cD_r (H : Hp) (c : Option Int) : OdR H (cV c) (cD c) := by cases c <;> exact rfl
theorem cD_one {c : Option Int} : cD c = .num 1 ↔ c = some 1 := by cases c <;> simp [cD]
abbrev s_merged_one : Stmt := top 36
theorem sc_merged_one : FnScope ["began", "store", "own", "choice"] ["began", "store", "own", "choice"] (defScope s_merged_one) := ⟨rfl, rfl, rfl, by decide +kernel, rfl, by decide +kernel, by decide +kernel⟩
def sp_merged_one : Sp := fun vs H Q _ => ∃ (vb vx vo vc : V) (b s : OD) (c : Option Int), vs = [vb, vx, vo, vc] ∧ vc = cV c ∧ OdR H vb b ∧ OdR H vx s ∧ (match s, b with | .row _, .lst _ => False | .lst _, .row _ => False | _, _ => True) ∧ Q (if s = b ∨ c = some 1 then vo else vx) H
theorem ok_merged_one {f : Addr} {fd : FuncData} (T : Tp K mg ad) (F : Fun K "merged_one" "merged_one" s_merged_one f fd) : FnOk P w K mg base CX0 1 f fd ["began", "store", "own", "choice"] sp_merged_one := by
  refine F.ok sc_merged_one (fun vs H Q E h => ?_) (fun cdv A outer s H vs Q E hr h => ⟨_, (pss_cons (ps_if (PW.pt (pw_or (pt_cmpR (op_eqO hr.units) (pv 1) (pv 0) (nomark _)) (pw_or1 (pt_cmpR (op_eqO hr.units) (pv 3) (pe_cst (by rfl) T.k_OF_THE_SESSION) (nomark _))))) (pss_one (ps_ret (pv 2))) pss_nil) (pss_one (ps_ret (pv 1)))), ?_⟩)
  · obtain ⟨vb, vx, vo, vc, b, s, c, rfl, _⟩ := h
    rfl
  obtain ⟨vb, vx, vo, vc, b, s, c, rfl, rfl, hb, hs, hok, k⟩ := h
  have hc := cD_r H c
  have h1 : OdR H (V.int 1) (.num 1) := rfl
  have hok2 : (match cD c, OD.num 1 with | .row _, .lst _ => False | .lst _, .row _ => False | _, _ => True) := by cases c <;> trivial
  walk_at "rd"
  refine ifd (fun c1 => ?_) (fun c1 => ?_)
  · rw [if_pos (.inl c1)] at k
    walk_at "rd"
    exact k
  walk_at "rd"
  refine ifd (fun c2 => ?_) (fun c2 => ?_)
  · rw [if_pos (.inr (cD_one.mp c2))] at k
    walk_at "rd"
    exact k
  · rw [if_neg (fun z => z.elim c1 fun z => c2 (cD_one.mpr z))] at k
    walk_at "rd"
    exact k
/-! ### merged_fields -/
def mo1 (b : Option Int) (s o : Int) (c : Option Int) : Int := if b = some s ∨ c = some 1 then o else s
def mfM (b : Option (List Int)) (s o : List Int) (ch : Int → Option Int) (n : Nat) : List Int := (List.range n).map fun c => mo1 (b.map fun l => l.getD c 0) (s.getD c 0) (o.getD c 0) (ch (c : Int))
theorem mfM_succ (b : Option (List Int)) (s o : List Int) (ch : Int → Option Int) (n : Nat) : mfM b s o ch (n + 1) = mfM b s o ch n ++ [mo1 (b.map fun l => l.getD n 0) (s.getD n 0) (o.getD n 0) (ch (n : Int))] := by
  unfold mfM
  rw [List.range_succ, List.map_append]; rfl
structure ChD (H : Hp) (a : Addr) (ch : Int → Option Int) : Prop where
  ex : ∃ ck, H a = some (.dK ck) ∧ ∀ c, valV ck (.inl c) = (ch c).map V.int
theorem ChD.same {H H' : Hp} (s : Same H H') {a : Addr} {ch : Int → Option Int} (h : ChD H a ch) : ChD H' a ch := by
  obtain ⟨ck, e, h⟩ := h.ex
  exact ⟨ck, s _ _ e, h⟩
theorem ChD.get {H : Hp} {a : Addr} {ch : Int → Option Int} (h : ChD H a ch) (c : Int) : ∃ o, DGet H a (.int c) o ∧ o.getD .non = cV (ch c) := by
  obtain ⟨ck, e, h⟩ := h.ex
  refine ⟨valV ck (.inl c), DGet.k (k := .inl c) e, ?_⟩
  rw [h c]
  cases ch c <;> rfl
abbrev s_merged_fields : Stmt := top 35
theorem sc_merged_fields : FnScope ["began", "store", "own", "choices", "values", "column", "value"] ["began", "store", "own", "choices"] (defScope s_merged_fields) := ⟨rfl, rfl, rfl, by decide +kernel, rfl, by decide +kernel, by decide +kernel⟩
def sp_merged_fields : Sp := fun vs H Q _ => ∃ (vb : V) (sa oa ca : Addr) (b : Option (List Int)) (s o : List Int) (ch : Int → Option Int), vs = [vb, .ref sa, .ref oa, .ref ca] ∧ OV H vb b ∧ H sa = some (.tup (s.map V.int)) ∧ H oa = some (.tup (o.map V.int)) ∧ ChD H ca ch ∧ s.length ≤ 100 ∧ o.length = s.length ∧ (∀ l, b = some l → l.length = s.length) ∧
  ∀ q H', Same H H' → H' q = some (.tup ((mfM b s o ch s.length).map V.int)) → Q (.ref q) H'
theorem ok_merged_fields {f : Addr} {fd : FuncData} (T : Tp K mg ad) (c_merged_one : Fc P w K mg base CX0 1 "merged_one" ["began", "store", "own", "choice"] sp_merged_one)
    (F : Fun K "merged_fields" "merged_fields" s_merged_fields f fd) : FnOk P w K mg base CX0 2 f fd ["began", "store", "own", "choices"] sp_merged_fields := by
  refine F.ok sc_merged_fields (fun vs H Q E h => ?_) (fun cdv A outer s H vs Q E hr h => ⟨_, (pss_cons (ps_set (i := 4) sc_merged_fields.nd rfl (.inl rfl) (pe_lst pa_nil)) (pss_cons (ps_forO PassesOwn.never rfl (pi_range1 rfl T.b_range (pa_cons (pe_callB call_len_seq (by rfl) T.b_len (by decide +kernel) (pa_cons (pv 1) pa_nil)) pa_nil)) (pg_name (i := 5) sc_merged_fields.nd rfl (.inl rfl)) (pss_cons (ps_set (i := 6) sc_merged_fields.nd rfl (.inl rfl) (pe_ifExp (pt_cmpR op_isN (pv 0) pe_non (nomark _)) pe_non (pe_ix ix_tup (pv 0) (pv 5) (fun _ _ => rfl)))) (pss_one (ps_expr (pe_bm PySem.F.plainAttrs_list PySem.F.slot_list_append PySem.F.type_list_append mt_appL (pv 4) (pa_cons (pe_fc c_merged_one (hr.mono (by decide)) (by rfl) (pa_cons (pv 6) (pa_cons (pe_ix ix_tup (pv 1) (pv 5) (fun _ _ => rfl)) (pa_cons (pe_ix ix_tup (pv 2) (pv 5) (fun _ _ => rfl)) (pa_cons (pe_dget1 (hu_of hr) (pv 3) (pv 5) ⟨rfl, rfl, rfl, rfl⟩) pa_nil))))) pa_nil)))))) (pss_one (ps_ret (pe_callTy call_tuple_of (by rfl) T.b_tuple (by decide +kernel) (pa_cons (pv 4) pa_nil)))))), ?_⟩)
  · obtain ⟨vb, sa, oa, ca, b, s, o, ch, rfl, _⟩ := h
    rfl
  obtain ⟨vb, sa, oa, ca, b, s, o, ch, rfl, hb, hs, ho, hc, hz, hl, hlb, k⟩ := h
  have hls : (s.map V.int).length = s.length := List.length_map ..
  walk_at "rd"
  intro q nq
  obtain ⟨s1, hq⟩ := al2 (o := .lst []) nq
  generalize upd H q (.lst []) = H1 at s1 hq ⊢
  refine ⟨_, rfl, sa, s.map V.int, rfl, .inr (SqT.of (s1 _ _ hs)), _, rfl, Int.le_trans (by decide) (Int.natCast_nonneg _), ?_, ?_⟩
  · rw [hls]; exact Int.lt_of_le_of_lt (show ((s.length : Nat) : Int) ≤ 100 by omega) (by decide)
  rw [hls, Int.toNat_natCast]
  refine for_it (walk_range (n := s.length)) (fun i σ H' => Nx (∃ (x5 x6 : Option V), σ = [some vb, some (.ref sa), some (.ref oa), some (.ref ca), some (.ref q), x5, x6] ∧ Same H H' ∧ H' q = some (.lst ((mfM b s o ch i).map V.int)))) ⟨_, _, rfl, s1, hq⟩ (fun _ _ _ _ _ => trivial) ?_ ?_
  · rintro i v σ H2 H2' hi ⟨x5, x6, rfl, s2, hq2⟩ ⟨rfl, hv⟩
    have hv : v = V.int (0 + ((i : Nat) : Int)) := hv
    rw [Int.zero_add] at hv
    subst hv
    have h2s := s2 _ _ hs
    have h2o := s2 _ _ ho
    have es := atI_nat (ints_at (l := s) hi)
    have eo := atI_nat (ints_at (l := o) (i := i) (by omega))
    have es0 : atI (s.map V.int) (0 + (i : Int)) = some (V.int (s.getD i 0)) := by rw [Int.zero_add]; exact es
    have eo0 : atI (o.map V.int) (0 + (i : Int)) = some (V.int (o.getD i 0)) := by rw [Int.zero_add]; exact eo
    obtain ⟨oc, gc, ec⟩ := (hc.same s2).get (i : Int)
    have ic : IsD H2' ca := by obtain ⟨kv, e, _⟩ := (hc.same s2).ex; exact .inl ⟨kv, .inl e⟩
    have lenQ : ((mfM b s o ch i).map V.int).length ≤ 100 := by
      unfold mfM
      rw [List.length_map, List.length_map, List.length_range]; omega
    -- one value
    have turn : ∀ (vv : V) (bi : Option Int), OdR H2' vv (cD bi) → bi = b.map (fun l => l.getD i 0) → ∀ (x : V), x = (if OD.num (s.getD i 0) = cD bi ∨ ch (i : Int) = some 1 then V.int (o.getD i 0) else V.int (s.getD i 0)) → x = V.int (mo1 (b.map fun l => l.getD i 0) (s.getD i 0) (o.getD i 0) (ch (i : Int))) := fun vv bi _ e x hx => by
      rw [hx, ← e]
      unfold mo1
      have : OD.num (s.getD i 0) = cD bi ↔ bi = some (s.getD i 0) := by
        cases bi with
        | none => simp [cD]
        | some z => simp [cD, eq_comm]
      by_cases c : bi = some (s.getD i 0) ∨ ch (i : Int) = some 1
      · rw [if_pos c, if_pos (c.imp this.mpr id)]
      · rw [if_neg c, if_neg (fun z => c (z.imp this.mp id))]
    have hs1 : OdR H2' (V.int (s.getD i 0)) (.num (s.getD i 0)) := rfl
    -- the rest, of a value
    have rest : ∀ (vv : V) (x : V), x = V.int (mo1 (b.map fun l => l.getD i 0) (s.getD i 0) (o.getD i 0) (ch (i : Int))) → ∀ H3, H3 = upd H2' q (.lst ((mfM b s o ch i).map V.int ++ [x])) →
        Nx (∃ (x5 x6 : Option V), [some vb, some (.ref sa), some (.ref oa), some (.ref ca), some (.ref q), some (.int (i : Nat)), some vv] = [some vb, some (.ref sa), some (.ref oa), some (.ref ca), some (.ref q), x5, x6] ∧ Same H H3 ∧ H3 q = some (.lst ((mfM b s o ch (i + 1)).map V.int))) := fun vv x hx H3 e3 => by
      refine ⟨⟨_, _, rfl, fun b u e => by rw [e3, upd_ne (ne_of_none e nq)]; exact s2 b u e, ?_⟩⟩
      rw [e3, upd_same, mfM_succ, List.map_append, hx]; rfl
    walk_at "rd"
    refine ifd (fun c1 => ?_) (fun c1 => ?_)
    · have e1 : b = none := hb.non.mp c1
      have hv0 : OdR H2' V.non (cD none) := rfl
      have hok : (match OD.num (s.getD i 0), cD none with | .row _, .lst _ => False | .lst _, .row _ => False | _, _ => True) := trivial
      walk_at "rd"
      intro H3 e3
      have := rest V.non _ (turn V.non none hv0 (by rw [e1]; rfl) _ rfl) H3 e3
      walk_at "rd"
      exact this
    · obtain ⟨z, rfl⟩ : ∃ z, b = some z := by
        cases b with
        | none => exact absurd (hb.non.mpr rfl) c1
        | some z => exact ⟨z, rfl⟩
      have hlz := hlb z rfl
      obtain ⟨za, rfl, hza⟩ := hb
      have h2z := s2 _ _ hza
      have ez := atI_nat (ints_at (l := z) (i := i) (by omega))
      have ez0 : atI (z.map V.int) (0 + (i : Int)) = some (V.int (z.getD i 0)) := by rw [Int.zero_add]; exact ez
      have hv0 : OdR H2' (V.int (z.getD i 0)) (cD (some (z.getD i 0))) := rfl
      have hok : (match OD.num (s.getD i 0), cD (some (z.getD i 0)) with | .row _, .lst _ => False | .lst _, .row _ => False | _, _ => True) := trivial
      walk_at "rd"
      intro H3 e3
      have := rest (V.int (z.getD i 0)) _ (turn _ (some (z.getD i 0)) hv0 rfl _ rfl) H3 e3
      walk_at "rd"
      exact this
  · rintro σ H2 ⟨x5, x6, rfl, s2, hq2⟩
    refine ⟨_, rfl, q, _, rfl, .inl ⟨SqL.of hq2, fun l nl => ?_⟩⟩
    exact k l _ (s2.trans (al2 nl).1) upd_same
/-! ### merged_row -/
def mo (b s o : Option (List Int)) (c : Option Int) : Option (List Int) := if s = b ∨ c = some 1 then o else s
def mrM (b s o : Option (List Int)) (by_ : Bool) (ch : Int → Option Int) : Option (List Int) := match by_, s, o with
  | true, some x, some y => some (mfM b x y ch x.length)
  | _, _, _ => mo b s o (ch 0)
abbrev s_merged_row : Stmt := top 34
theorem sc_merged_row : FnScope ["began", "store", "own", "by_fields", "choices"] ["began", "store", "own", "by_fields", "choices"] (defScope s_merged_row) := ⟨rfl, rfl, rfl, by decide +kernel, rfl, by decide +kernel, by decide +kernel⟩
def sp_merged_row : Sp := fun vs H Q _ => ∃ (vb vx vo : V) (ca : Addr) (b s o : Option (List Int)) (by_ : Bool) (ch : Int → Option Int) (n : Nat), vs = [vb, vx, vo, .bl by_, .ref ca] ∧ OV H vb b ∧ OV H vx s ∧ OV H vo o ∧ ChD H ca ch ∧ n ≤ 100 ∧ (∀ l, b = some l → l.length = n) ∧ (∀ l, s = some l → l.length = n) ∧ (∀ l, o = some l → l.length = n) ∧
  ∀ v H', Same H H' → OV H' v (mrM b s o by_ ch) → Q v H'
theorem ok_merged_row {f : Addr} {fd : FuncData} (T : Tp K mg ad) (c_merged_fields : Fc P w K mg base CX0 2 "merged_fields" ["began", "store", "own", "choices"] sp_merged_fields) (c_merged_one : Fc P w K mg base CX0 1 "merged_one" ["began", "store", "own", "choice"] sp_merged_one)
    (F : Fun K "merged_row" "merged_row" s_merged_row f fd) : FnOk P w K mg base CX0 3 f fd ["began", "store", "own", "by_fields", "choices"] sp_merged_row := by
  refine F.ok sc_merged_row (fun vs H Q E h => ?_) (fun cdv A outer s H vs Q E hr h => ⟨_, (pss_cons (ps_if (PW.pt (pw_and (pt_val (pv 3)) (pw_and (pt_cmpR op_notN (pv 1) pe_non (nomark _)) (pw_and1 (pt_cmpR op_notN (pv 2) pe_non (nomark _)))))) (pss_one (ps_ret (pe_fc c_merged_fields (hr.mono (by decide)) (by rfl) (pa_cons (pv 0) (pa_cons (pv 1) (pa_cons (pv 2) (pa_cons (pv 4) pa_nil))))))) pss_nil) (pss_one (ps_ret (pe_fc c_merged_one (hr.mono (by decide)) (by rfl) (pa_cons (pv 0) (pa_cons (pv 1) (pa_cons (pv 2) (pa_cons (pe_dget1 (hu_of hr) (pv 4) pe_int ⟨rfl, rfl, rfl, rfl⟩) pa_nil)))))))), ?_⟩)
  · obtain ⟨vb, vx, vo, ca, b, s, o, by_, ch, n, rfl, _⟩ := h
    rfl
  obtain ⟨vb, vx, vo, ca, b, s, o, by_, ch, n, rfl, hb, hs, ho, hc, hn, l1, l2, l3, k⟩ := h
  have k1 := okRow s b
  obtain ⟨oc, gc, ec⟩ := hc.get 0
  have ic : IsD H ca := by obtain ⟨kv, e, _⟩ := hc.ex; exact .inl ⟨kv, .inl e⟩
  have whole : mrM b s o by_ ch = mo b s o (ch 0) → Q (if oD s = oD b ∨ ch 0 = some 1 then vo else vx) H := fun e => by
    refine k _ H (Same.refl _) ?_
    rw [e]
    unfold mo
    by_cases c : s = b ∨ ch 0 = some 1
    · rw [if_pos c, if_pos (c.imp oD_inj.mpr id)]; exact ho
    · rw [if_neg c, if_neg (fun z => c (z.imp oD_inj.mp id))]; exact hs
  walk_at "rd"
  refine ifb (b := by_) (fun c1 => ?_) (fun c1 => ?_)
  · subst c1
    walk_at "rd"
    refine ifnd (fun c2 => ?_) (fun c2 => ?_)
    · walk_at "rd"
      refine ifnd (fun c3 => ?_) (fun c3 => ?_)
      · obtain ⟨x, rfl⟩ : ∃ x, s = some x := by
          cases s with
          | none => exact absurd (hs.non.mpr rfl) c2
          | some x => exact ⟨x, rfl⟩
        obtain ⟨y, rfl⟩ : ∃ y, o = some y := by
          cases o with
          | none => exact absurd (ho.non.mpr rfl) c3
          | some y => exact ⟨y, rfl⟩
        have hx := l2 x rfl
        have hy := l3 y rfl
        obtain ⟨xa, rfl, hxa⟩ := hs
        obtain ⟨ya, rfl, hya⟩ := ho
        have l1' : ∀ l, b = some l → l.length = x.length := fun l e => by rw [l1 l e, hx]
        walk_at "rd"
        exact fun q H' s' hq => k (.ref q) H' s' ⟨q, rfl, hq⟩
      · have e3 : o = none := ho.non.mp c3
        have e0 : mrM b s o true ch = mo b s o (ch 0) := by rw [e3]; cases s <;> rfl
        have kk := whole e0
        walk_at "rd"
        exact kk
    · have e2 : s = none := hs.non.mp c2
      have e0 : mrM b s o true ch = mo b s o (ch 0) := by rw [e2]; rfl
      have kk := whole e0
      walk_at "rd"
      exact kk
  · subst c1
    have kk := whole (by cases s <;> cases o <;> rfl)
    walk_at "rd"
    exact kk
end Tw
namespace Tw
open PySem PySem.Spec PyProof.Rows L2
open VauowBase (findRow Db tableAt)

variable {P : Program} {w : World} {K : PySem.W.Frag} {mg : Str → Option Value} {base : Heap} {ad : Ads}
/-! ### merged_tables -/
abbrev Ch3 := Int → Int → Int → Option Int
structure ChoAt (H : Hp) (ra : Addr) (ch : Ch3) : Prop where
  ex : ∃ kvs, H ra = some (.dT kvs) ∧ ∀ t i : Int, (valV kvs [.inl t, .inl i] = none ∧ ∀ c, ch t i c = none) ∨ ∃ rc, valV kvs [.inl t, .inl i] = some (.ref rc) ∧ ChD H rc (ch t i)
theorem ChoAt.same {H H' : Hp} (s : Same H H') {ra : Addr} {ch : Ch3} (h : ChoAt H ra ch) : ChoAt H' ra ch := by
  obtain ⟨kvs, e, h⟩ := h.ex
  refine ⟨kvs, s _ _ e, fun t i => (h t i).imp id fun ⟨rc, h1, h2⟩ => ⟨rc, h1, h2.same s⟩⟩
def mt1 (by_ : Bool) (b s o : List VauowBase.Row) (ch : Int → Int → Option Int) (i : Nat) : Option VauowBase.Row := (mrM (vo b i) (vo s i) (vo o i) by_ (ch (i : Int))).map fun l => { id := i, vals := l }
def mtT (by_ : Bool) (b s o : Db) (ch : Ch3) (t : Nat) : List VauowBase.Row := (ids2 (tableAt s t) (tableAt o t)).filterMap (mt1 by_ (tableAt b t) (tableAt s t) (tableAt o t) (ch (t : Int)))
def mtM (by_ : Bool) (b s o : Db) (ch : Ch3) (n : Nat) : Db := (List.range n).map (mtT by_ b s o ch)
theorem mtM_succ (by_ : Bool) (b s o : Db) (ch : Ch3) (n : Nat) : mtM by_ b s o ch (n + 1) = mtM by_ b s o ch n ++ [mtT by_ b s o ch n] := by
  unfold mtM
  rw [List.range_succ, List.map_append]; rfl
theorem RowR.put {H : Hp} {r : Addr} {kvs kvs' : List (Key × V)} (h : H r = some (.dK kvs)) {kv : Key × V} {q : VauowBase.Row} (h2 : RowR H kv q) : RowR (upd H r (.dK kvs')) kv q := by
  obtain ⟨ra, e, e2⟩ := h2
  refine ⟨ra, e, ?_⟩
  rw [upd_ne (fun z => by rw [z, h] at e2; cases e2)]
  exact e2
theorem TabD.put {H : Hp} {r da : Addr} {kvs kvs' : List (Key × V)} {rs : List VauowBase.Row} (h : H r = some (.dK kvs)) (hne : da ≠ r) (h2 : TabD H da rs) : TabD (upd H r (.dK kvs')) da rs := by
  obtain ⟨kv, e, p⟩ := h2.ex
  exact ⟨kv, by rw [upd_ne hne]; exact e, Paired.mono (fun _ _ => RowR.put h) p⟩
theorem Paired.memMono {α β : Type} {R S : α → β → Prop} : ∀ {l : List α} {m : List β}, Paired R l m → (∀ a b, a ∈ l → R a b → S a b) → Paired S l m
  | _, _, .nil, _ => .nil
  | _, _, .cons h t, f => .cons (f _ _ (by simp) h) (Paired.memMono t fun a b ha => f a b (by simp [ha]))
theorem take_lt {l : List Nat} (h : l.Pairwise (· < ·)) {j i : Nat} (hi : l[j]? = some i) : ∀ x ∈ l.take j, x < i := by
  intro x hx
  obtain ⟨k, hk⟩ := List.mem_iff_getElem?.mp hx
  rw [List.getElem?_take] at hk
  split at hk
  · rename_i hkj
    obtain ⟨h1, rfl⟩ := List.getElem?_eq_some_iff.mp hi
    obtain ⟨h2, rfl⟩ := List.getElem?_eq_some_iff.mp hk
    exact List.pairwise_iff_getElem.mp h k j h2 h1 hkj
  · cases hk
theorem mt1_id {by_ : Bool} {b s o : List VauowBase.Row} {ch : Int → Int → Option Int} {i : Nat} {r : VauowBase.Row} (h : mt1 by_ b s o ch i = some r) : r.id = i := by
  unfold mt1 at h
  obtain ⟨l, _, rfl⟩ := Option.map_eq_some_iff.mp h
  rfl
abbrev s_merged_tables : Stmt := top 33
theorem sc_merged_tables : FnScope ["began", "store", "own", "by_fields", "row_choices", "merged", "number", "rows", "row_id", "then", "there", "here", "row"] ["began", "store", "own", "by_fields", "row_choices"] (defScope s_merged_tables) := ⟨rfl, rfl, rfl, by decide +kernel, rfl, by decide +kernel, by decide +kernel⟩
def sp_merged_tables : Sp := fun vs H Q _ => ∃ (ba sa oa ra : Addr) (b s o : Db) (by_ : Bool) (ch : Ch3) (sch : VauowBase.Schema), vs = [.ref ba, .ref sa, .ref oa, .bl by_, .ref ra] ∧ DbAt H ba b ∧ DbAt H sa s ∧ DbAt H oa o ∧ ChoAt H ra ch ∧ GS sch ∧ DO sch b ∧ DO sch s ∧ DO sch o ∧
  ∀ q H', H q = none → Same H H' → DbAt H' q (mtM by_ b s o ch sch.length) → Q (.ref q) H'
theorem ok_merged_tables {f : Addr} {fd : FuncData} (T : Tp K mg ad) (c_merged_row : Fc P w K mg base CX0 3 "merged_row" ["began", "store", "own", "by_fields", "choices"] sp_merged_row)
    (F : Fun K "merged_tables" "merged_tables" s_merged_tables f fd) : FnOk P w K mg base CX0 4 f fd ["began", "store", "own", "by_fields", "row_choices"] sp_merged_tables := by
  refine F.ok sc_merged_tables (fun vs H Q E h => ?_) (fun cdv A outer s H vs Q E hr h => ⟨_, (pss_cons (ps_set (i := 5) sc_merged_tables.nd rfl (.inl rfl) (pe_lst pa_nil)) (pss_cons (ps_forO PassesOwn.never rfl (pi_range1 rfl T.b_range (pa_cons (pe_callB call_len_seq (by rfl) T.b_len (by decide +kernel) (pa_cons (pv 0) pa_nil)) pa_nil)) (pg_name (i := 6) sc_merged_tables.nd rfl (.inl rfl)) (pss_cons (ps_set (i := 7) sc_merged_tables.nd rfl (.inl rfl) pe_dnewK) (pss_cons (ps_forO PassesOwn.never rfl (pi_list (pe_keys (pe_ix ix_list (pv 1) (pv 6) (fun _ _ => rfl)) (pe_ix ix_list (pv 2) (pv 6) (fun _ _ => rfl)) T.b_sorted T.b_set)) (pg_name (i := 8) sc_merged_tables.nd rfl (.inl rfl)) (pss_cons (ps_set (i := 9) sc_merged_tables.nd rfl (.inl rfl) (pe_dget1 (hu_of hr) (pe_ix ix_list (pv 0) (pv 6) (fun _ _ => rfl)) (pv 8) ⟨rfl, rfl, rfl, rfl⟩)) (pss_cons (ps_set (i := 10) sc_merged_tables.nd rfl (.inl rfl) (pe_dget1 (hu_of hr) (pe_ix ix_list (pv 1) (pv 6) (fun _ _ => rfl)) (pv 8) ⟨rfl, rfl, rfl, rfl⟩)) (pss_cons (ps_set (i := 11) sc_merged_tables.nd rfl (.inl rfl) (pe_dget1 (hu_of hr) (pe_ix ix_list (pv 2) (pv 6) (fun _ _ => rfl)) (pv 8) ⟨rfl, rfl, rfl, rfl⟩)) (pss_cons (ps_set (i := 12) sc_merged_tables.nd rfl (.inl rfl) (pe_fc c_merged_row (hr.mono (by decide)) (by rfl) (pa_cons (pv 9) (pa_cons (pv 10) (pa_cons (pv 11) (pa_cons (pv 3) (pa_cons (pe_dget2 (hu_of hr) (pv 4) (pe_tup (pa_cons (pv 6) (pa_cons (pv 8) pa_nil))) pe_dnewK ⟨rfl, rfl, rfl, rfl⟩) pa_nil))))))) (pss_one (ps_if (pt_cmpR op_notN (pv 12) pe_non (nomark _)) (pss_one (ps_dput (hu_of hr) (pv 7) (pv 8) (pv 12) rfl)) pss_nil))))))) (pss_one (ps_expr (pe_bm PySem.F.plainAttrs_list PySem.F.slot_list_append PySem.F.type_list_append mt_appL (pv 5) (pa_cons (pv 7) pa_nil))))))) (pss_one (ps_ret (pv 5))))), ?_⟩)
  · obtain ⟨ba, sa, oa, ra, b, s, o, by_, ch, sch, rfl, _⟩ := h
    rfl
  obtain ⟨ba, sa, oa, ra, b, s, o, by_, ch, sch, rfl, hb, hs, ho, hch, gs, db, ds, do_, k⟩ := h
  obtain ⟨bas, hba, pb⟩ := hb.ex
  obtain ⟨sas, hsa, ps⟩ := hs.ex
  obtain ⟨oas, hoa, po⟩ := ho.ex
  have hlb : (bas.map V.ref).length = sch.length := by rw [List.length_map, Paired.length pb, db.len]
  have hsl := gs.len
  walk_at "rd"
  intro m nm
  obtain ⟨s1, hm⟩ := al2 (o := .lst []) nm
  generalize upd H m (.lst []) = H1 at s1 hm ⊢
  refine ⟨_, rfl, ba, bas.map V.ref, rfl, .inl (SqL.of (s1 _ _ hba)), _, rfl, Int.le_trans (by decide) (Int.natCast_nonneg _), ?_, ?_⟩
  · rw [hlb]; exact Int.lt_of_le_of_lt (show ((sch.length : Nat) : Int) ≤ 4 by omega) (by decide)
  rw [hlb, Int.toNat_natCast]
  refine for_it (walk_range (n := sch.length)) (fun i σ H' => Nx (∃ (x6 x7 x8 x9 x10 x11 x12 : Option V) (das : List Addr), σ = [some (.ref ba), some (.ref sa), some (.ref oa), some (.bl by_), some (.ref ra), some (.ref m), x6, x7, x8, x9, x10, x11, x12] ∧ Same H H' ∧ H' m = some (.lst (das.map V.ref)) ∧ Paired (TabD H') das (mtM by_ b s o ch i))) ⟨_, _, _, _, _, _, _, [], rfl, s1, hm, (by show Paired _ [] []; exact .nil)⟩ (fun _ _ _ _ _ => trivial) ?_ ?_
  · rintro i v σ H2 H2' hi ⟨x6, x7, x8, x9, x10, x11, x12, das, rfl, s2, hm2, prw⟩ ⟨rfl, hv⟩
    have hv : v = V.int (0 + ((i : Nat) : Int)) := hv
    rw [Int.zero_add] at hv
    subst hv
    obtain ⟨tb, hsi⟩ : ∃ z, sch[i]? = some z := ⟨sch[i]'hi, by simp [hi]⟩
    have gt := gs.tabs tb (List.mem_of_getElem? hsi)
    have at_ : ∀ {das : List Addr} {d : Db} {H : Hp}, Paired (TabD H) das d → DO sch d → ∃ da, das[i]? = some da ∧ TabD H da (tableAt d i) ∧ TO tb.columns.length (tableAt d i) ∧ atI (das.map V.ref) (i : Int) = some (V.ref da) ∧ atI (das.map V.ref) (0 + (i : Int)) = some (V.ref da) := fun {das d H} p dd => by
      obtain ⟨rs, hdi⟩ : ∃ z, d[i]? = some z := ⟨d[i]'(by rw [dd.len]; exact hi), by simp [show i < d.length by rw [dd.len]; exact hi]⟩
      obtain ⟨da, hda, ht⟩ := paired_get p hdi
      have e : tableAt d i = rs := by unfold tableAt; rw [hdi]; rfl
      refine ⟨da, hda, by rw [e]; exact ht, by rw [e]; exact dd.tabs i rs tb hdi hsi, atI_nat (by rw [List.getElem?_map, hda]; rfl), by rw [Int.zero_add]; exact atI_nat (by rw [List.getElem?_map, hda]; rfl)⟩
    obtain ⟨ta, hta, tab, tob, atb, atb0⟩ := at_ pb db
    obtain ⟨tsa, htsa, tas, tos, ats, ats0⟩ := at_ ps ds
    obtain ⟨toa, htoa, tao, too, ato, ato0⟩ := at_ po do_
    have ldas := Paired.length prw
    have ldas2 : das.length = i := by rw [ldas]; unfold mtM; rw [List.length_map, List.length_range]
    walk_at "rd"
    intro r nr
    obtain ⟨s3, hr3⟩ := al2 (o := .dK []) nr
    generalize upd H2' r (.dK []) = H3 at s3 hr3 ⊢
    have s03 := s2.trans s3
    have hm3 := s3 _ _ hm2
    have das_ne : ∀ da ∈ das, da ≠ r := fun da hda z => by
      obtain ⟨k', hk'⟩ := List.mem_iff_getElem?.mp hda
      obtain ⟨rs, _, ht⟩ := paired_get' prw hk'
      obtain ⟨kv, e, _⟩ := ht.ex
      rw [z, nr] at e; cases e
    have prw3 := Paired.mono (fun a rs => TabD.same (rs := rs) s3) prw
    refine ⟨?_⟩
    have hsa3 := s03 _ _ hsa
    have hoa3 := s03 _ _ hoa
    have tas3 := tas.same s03
    have tao3 := tao.same s03
    have tis := tos.ti
    have tio := too.ti
    walk_at "rd"
    intro H4 s4
    have hoa4 := s4 _ _ hoa3
    have tao4 := tao3.same s4
    walk_at "rd"
    intro p H5 np s5 hp
    have hpm : p ≠ m := fun z => by rw [z, hm3] at np; cases np
    have hpr : p ≠ r := fun z => by rw [z, hr3] at np; cases np
    have hm5 := s5 _ _ hm3
    have hr5 := s5 _ _ hr3
    have s05 := s03.trans s5
    have hids : ((ids2 (tableAt s i) (tableAt o i)).map fun (i : Nat) => V.int (i : Int)).length = (ids2 (tableAt s i) (tableAt o i)).length := List.length_map ..
    have hidl := ids2_len tos.len too.len
    refine ⟨p, rfl, ⟨_, SqL.of hp⟩, for_it (walk_list (xs := (ids2 (tableAt s i) (tableAt o i)).map fun (i : Nat) => V.int (i : Int))) (fun j σ H' => Nx (∃ (x8 x9 x10 x11 x12 : Option V) (kvs : List (Key × V)), σ = [some (.ref ba), some (.ref sa), some (.ref oa), some (.bl by_), some (.ref ra), some (.ref m), some (.int (i : Nat)), some (.ref r), x8, x9, x10, x11, x12] ∧ Same H H' ∧ H' m = some (.lst (das.map V.ref)) ∧ H' p = some (.lst ((ids2 (tableAt s i) (tableAt o i)).map fun (i : Nat) => V.int (i : Int))) ∧ H' r = some (.dK kvs) ∧ Paired (TabD H') das (mtM by_ b s o ch i) ∧ Paired (RowR H') kvs (((ids2 (tableAt s i) (tableAt o i)).take j).filterMap (mt1 by_ (tableAt b i) (tableAt s i) (tableAt o i) (ch (i : Int)))))) ⟨_, _, _, _, _, [], rfl, s05, hm5, hp, hr5, Paired.mono (fun a rs => TabD.same s5) prw3, by rw [List.take_zero]; exact .nil⟩ (fun j σ H' _ h => ?_) ?_ ?_⟩
    · obtain ⟨_, _, _, _, _, _, _, _, _, hp', _⟩ := h.h
      exact SqL.of hp'
    · rintro j v σ H6 H6' hj ⟨x8, x9, x10, x11, x12, kvs, rfl, s6, hm6, hp6, hr6, prw6, prk⟩ ⟨rfl, hv⟩
      obtain ⟨id, hid, rfl⟩ := map_get hv
      rw [hids] at hj
      have hba6 := s6 _ _ hba
      have hsa6 := s6 _ _ hsa
      have hoa6 := s6 _ _ hoa
      obtain ⟨ob, gb, vb⟩ := get_ov (tab.same s6) id
      obtain ⟨os, gs', vs⟩ := get_ov (tas.same s6) id
      obtain ⟨oo, go, vo'⟩ := get_ov (tao.same s6) id
      have ib : IsD H6' ta := by obtain ⟨kv, e, _⟩ := (tab.same s6).ex; exact .inl ⟨kv, .inl e⟩
      have is : IsD H6' tsa := by obtain ⟨kv, e, _⟩ := (tas.same s6).ex; exact .inl ⟨kv, .inl e⟩
      have io : IsD H6' toa := by obtain ⟨kv, e, _⟩ := (tao.same s6).ex; exact .inl ⟨kv, .inl e⟩
      have ir : IsD H6' ra := by obtain ⟨kv, e, _⟩ := (hch.same s6).ex; exact .inr ⟨kv, .inl e⟩
      have hn4 : tb.columns.length ≤ 100 := by have := gt.len; omega
      have w1 := fun l => vo_len tob (i := id) (l := l)
      have w2 := fun l => vo_len tos (i := id) (l := l)
      have w3 := fun l => vo_len too (i := id) (l := l)
      walk_at "rd"
      intro t1 n1
      obtain ⟨s7, ht1⟩ := al2 (o := .tup [V.int (i : Nat), V.int (id : Nat)]) n1
      generalize upd H6' t1 (.tup [V.int (i : Nat), V.int (id : Nat)]) = H7 at s7 ht1 ⊢
      walk_at "rd"
      intro e1 ne1
      obtain ⟨s8, he1⟩ := al2 (o := .dK []) ne1
      generalize upd H7 e1 (.dK []) = H8 at s8 he1 ⊢
      have s68 := s7.trans s8
      have s08 := s6.trans s68
      obtain ⟨oc, ca, hg, eoc, hcd⟩ : ∃ oc ca, DGet H8 ra (.ref t1) oc ∧ oc.getD (.ref e1) = .ref ca ∧ ChD H8 ca (ch (i : Int) (id : Int)) := by
        obtain ⟨kvr, e, hh⟩ := (hch.same s08).ex
        have g : DGet H8 ra (.ref t1) (valV kvr [.inl (i : Int), .inl (id : Int)]) := DGet.t e (s8 _ _ ht1)
        rcases hh (i : Int) (id : Int) with ⟨h1, h2⟩ | ⟨rc, h1, h2⟩
        · rw [h1] at g
          refine ⟨none, e1, g, rfl, ⟨[], he1, fun c => ?_⟩⟩
          rw [h2 c]; rfl
        · rw [h1] at g
          exact ⟨_, rc, g, rfl, h2⟩
      refine ⟨oc, hg, ?_⟩
      rw [eoc]
      have vb8 := vb.same s68
      have vs8 := vs.same s68
      have vo8 := vo'.same s68
      walk_at "rd"
      intro v H9 s9 hv9
      have s69 := s68.trans s9
      have s09 := s08.trans s9
      have hm9 := s69 _ _ hm6
      have hp9 := s69 _ _ hp6
      have hr9 := s69 _ _ hr6
      have prw9 := Paired.mono (fun a rs => TabD.same (rs := rs) s69) prw6
      have prk9 := Paired.mono (fun a rs => RowR.same (r := rs) s69) prk
      have e1' : (ids2 (tableAt s i) (tableAt o i)).take (j + 1) = (ids2 (tableAt s i) (tableAt o i)).take j ++ [id] := take_more hid
      have eM : mt1 by_ (tableAt b i) (tableAt s i) (tableAt o i) (ch (i : Int)) id = (mrM (vo (tableAt b i) id) (vo (tableAt s i) id) (vo (tableAt o i) id) by_ (ch (i : Int) (id : Int))).map fun l => { id := id, vals := l } := rfl
      generalize mrM (vo (tableAt b i) id) (vo (tableAt s i) id) (vo (tableAt o i) id) by_ (ch (i : Int) (id : Int)) = M at hv9 eM
      walk_at "rd"
      refine ifnd (fun c1 => ?_) (fun c1 => ?_)
      · obtain ⟨l, rfl⟩ : ∃ l, M = some l := by
          cases M with
          | none => exact absurd (hv9.non.mpr rfl) c1
          | some l => exact ⟨l, rfl⟩
        obtain ⟨la, rfl, hla⟩ := hv9
        have idp : 1 ≤ id := by
          have := ids2_mem.mp (List.mem_of_getElem? hid)
          rcases this with ⟨r, hr, rfl⟩ | ⟨r, hr, rfl⟩
          · exact (tis.ids r hr).1
          · exact (tio.ids r hr).1
        have hlast : ∀ r ∈ ((ids2 (tableAt s i) (tableAt o i)).take j).filterMap (mt1 by_ (tableAt b i) (tableAt s i) (tableAt o i) (ch (i : Int))), r.id ≤ id - 1 := fun r hr => by
          obtain ⟨x, hx, hxr⟩ := List.mem_filterMap.mp hr
          have := take_lt (ids2_ris _ _) hid x hx
          rw [mt1_id hxr]; omega
        have hno : valV kvs (.inl (id : Int)) = none := no_key (last := id - 1) (by omega) prk9 hlast
        have hkl : kvs.length < sizeLine := by
          have := Paired.length prk9
          have h2 := List.length_filterMap_le (mt1 by_ (tableAt b i) (tableAt s i) (tableAt o i) (ch (i : Int))) ((ids2 (tableAt s i) (tableAt o i)).take j)
          rw [List.length_take] at h2
          exact Nat.lt_of_lt_of_le (show kvs.length < 100000 by omega) (by decide : 100000 ≤ sizeLine)
        walk_at "rd"
        refine And.intro (by exact DPut.k (k := .inl (id : Int)) hr9 hkl) ?_
        rw [putK_new _ hno]
        have nrH : H r = none := fresh_of (as := []) (Kp.of_same s2) nr (by simp)
        have la_ne : la ≠ r := fun z => by rw [z, hr9] at hla; cases hla
        refine ⟨⟨_, _, _, _, _, kvs ++ [(.inl (id : Int), .ref la)], rfl, fun b u e => by rw [upd_ne (ne_of_none e nrH)]; exact s09 b u e, ?_, ?_, upd_same, Paired.memMono prw9 fun a rs ha => TabD.put hr9 (das_ne a ha), ?_⟩⟩
        · rw [upd_ne (fun z => by rw [z, hr9] at hm9; cases hm9)]; exact hm9
        · rw [upd_ne hpr]; exact hp9
        · rw [e1', List.filterMap_append, List.filterMap_cons, eM, List.filterMap_nil]
          exact Paired.snoc (Paired.mono (fun _ _ => RowR.put hr9) prk9) ⟨la, rfl, by rw [upd_ne la_ne]; exact hla⟩
      · have c1 : M = none := hv9.non.mp c1
        subst c1
        walk_at "rd"
        refine ⟨⟨_, _, _, _, _, kvs, rfl, s09, hm9, hp9, hr9, prw9, ?_⟩⟩
        rw [e1', List.filterMap_append, List.filterMap_cons, eM, List.filterMap_nil]
        show Paired _ _ (_ ++ [])
        rw [List.append_nil]
        exact prk9
    · rintro σ H6 ⟨x8, x9, x10, x11, x12, kvs, rfl, s6, hm6, hp6, hr6, prw6, prk⟩
      rw [hids, List.take_length] at prk
      have hdl : (das.map V.ref).length ≤ 100 := by rw [List.length_map]; omega
      walk_at "rd"
      intro H7 e7
      have s7 : Same H H7 := fun b u e => by rw [e7, upd_ne (ne_of_none e nm)]; exact s6 b u e
      have ne : ∀ {b : Addr} {u : HO}, b ≠ m → H6 b = some u → H7 b = some u := fun {b u} n e => by rw [e7, upd_ne n]; exact e
      have kp : ∀ {a : Addr} {rs : List VauowBase.Row}, TabD H6 a rs → TabD H7 a rs := fun {a rs} t => by
        obtain ⟨kv, e, p⟩ := t.ex
        refine ⟨kv, ne (fun z => by rw [z, hm6] at e; cases e) e, Paired.mono (fun kv r ⟨ra, e1, e2⟩ => ⟨ra, e1, ne (fun z => by rw [z, hm6] at e2; cases e2) e2⟩) p⟩
      have hm7 : H7 m = some (.lst ((das ++ [r]).map V.ref)) := by rw [e7, upd_same, List.map_append]; rfl
      walk_at "rd"
      refine ⟨⟨_, _, _, _, _, _, _, das ++ [r], rfl, s7, hm7, ?_⟩⟩
      rw [mtM_succ]
      exact Paired.snoc (Paired.mono (fun _ _ => kp) prw6) (kp ⟨kvs, hr6, prk⟩)
  · rintro σ H2 ⟨x6, x7, x8, x9, x10, x11, x12, das, rfl, s2, hm2, prw⟩
    walk_at "rd"
    exact k m H2 nm s2 ⟨das, hm2, prw⟩
end Tw
namespace Tw
open PySem PySem.Spec PyProof.Rows L2
open VauowBase (findRow Db tableAt)

variable {P : Program} {w : World} {K : PySem.W.Frag} {mg : Str → Option Value} {base : Heap} {ad : Ads}
/-! ### choices_by_row -/
def chAdd (ch : Ch3) (x : List Int) (y : Int) : Ch3 := fun t i c => if t = x.getD 1 0 ∧ i = x.getD 2 0 ∧ c = x.getD 3 0 then some y else ch t i c
def chOf (l : List (List Int × Int)) : Ch3 := l.foldl (fun ch p => chAdd ch p.1 p.2) (fun _ _ _ => none)
theorem chOf_snoc (l : List (List Int × Int)) (p : List Int × Int) : chOf (l ++ [p]) = chAdd (chOf l) p.1 p.2 := by
  unfold chOf
  rw [List.foldl_append]; rfl
/-- as ChoAt, each row's own dict its own, all of them new -/
structure ChoS (H0 H : Hp) (fd : Addr) (ch : Ch3) (n : Nat) : Prop where
  ex : ∃ kvs, H fd = some (.dT kvs) ∧ kvs.length ≤ n ∧ ∀ t i : Int, (valV kvs [.inl t, .inl i] = none ∧ ∀ c, ch t i c = none) ∨
    ∃ rc ck, valV kvs [.inl t, .inl i] = some (.ref rc) ∧ H rc = some (.dK ck) ∧ ck.length ≤ n ∧ (∀ c, valV ck (.inl c) = (ch t i c).map V.int) ∧ H0 rc = none ∧ ∀ t' i' : Int, valV kvs [.inl t', .inl i'] = some (.ref rc) → t' = t ∧ i' = i
theorem ChoS.at {H0 H : Hp} {fd : Addr} {ch : Ch3} {n : Nat} (h : ChoS H0 H fd ch n) : ChoAt H fd ch := by
  obtain ⟨kvs, e, _, h⟩ := h.ex
  exact ⟨kvs, e, fun t i => (h t i).imp id fun ⟨rc, ck, h1, h2, _, h3, _⟩ => ⟨rc, h1, ⟨ck, h2, h3⟩⟩⟩
theorem seven {x : List Int} (h : x.length = 7) : ∃ k t i c a b d, x = [k, t, i, c, a, b, d] := by
  match x, h with
  | [k, t, i, c, a, b, d], _ => exact ⟨k, t, i, c, a, b, d, rfl⟩
theorem zip_at {α β : Type} {l : List α} {m : List β} {i : Nat} {x : α} {y : β} (h1 : l[i]? = some x) (h2 : m[i]? = some y) : (l.zip m)[i]? = some (x, y) := by
  rw [List.getElem?_zip_eq_some]; exact ⟨h1, h2⟩
theorem key_inj {t i t' i' : Int} (h : ([Sum.inl t', Sum.inl i'] : List Key) = [Sum.inl t, Sum.inl i]) : t' = t ∧ i' = i := by
  injection h with h1 h2
  injection h2 with h2 _
  injection h1 with h1
  injection h2 with h2
  exact ⟨h1, h2⟩
abbrev s_choices_by_row : Stmt := top 32
theorem sc_choices_by_row : FnScope ["clashes", "choices", "found", "clash", "choice", "row_choices"] ["clashes", "choices"] (defScope s_choices_by_row) := ⟨rfl, rfl, rfl, by decide +kernel, rfl, by decide +kernel, by decide +kernel⟩
def sp_choices_by_row : Sp := fun vs H Q _ => ∃ (ca ya : Addr) (ws : List V) (xs : List (List Int)) (ys : List Int), vs = [.ref ca, .ref ya] ∧ H ca = some (.lst ws) ∧ Paired (IntsR H) ws xs ∧ (∀ x ∈ xs, x.length = 7) ∧ H ya = some (.lst (ys.map V.int)) ∧ ys.length = xs.length ∧ xs.length ≤ 1000 ∧
  ∀ q H', H q = none → Same H H' → ChoAt H' q (chOf (xs.zip ys)) → Q (.ref q) H'
theorem ok_choices_by_row {f : Addr} {fd : FuncData} (T : Tp K mg ad) (F : Fun K "choices_by_row" "choices_by_row" s_choices_by_row f fd) : FnOk P w K mg base CX0 1 f fd ["clashes", "choices"] sp_choices_by_row := by
  refine F.ok sc_choices_by_row (fun vs H Q E h => ?_) (fun cdv A outer s H vs Q E hr h => ⟨_, (pss_cons (ps_set (i := 2) sc_choices_by_row.nd rfl (.inl rfl) pe_dnewT) (pss_cons (ps_forO PassesOwn.never rfl (pi_zip (by rfl) T.b_zip (pa_cons (pv 0) (pa_cons (pv 1) pa_nil))) (pg_tup (by rfl) (pgs_cons (pg_name (i := 3) sc_choices_by_row.nd rfl (.inl rfl)) (pgs_cons (pg_name (i := 4) sc_choices_by_row.nd rfl (.inl rfl)) pgs_nil))) (pss_cons (ps_set (i := 5) sc_choices_by_row.nd rfl (.inl rfl) (pe_dsetT (pv 2) (pe_slice sl_tup (pv 3) (po_some pe_int) (po_some pe_int)) pe_dnewK (hu_of hr) ⟨rfl, rfl, rfl, rfl⟩)) (pss_one (ps_dput (hu_of hr) (pv 5) (pe_ix ix_tup (pv 3) pe_int (fun _ _ => rfl)) (pv 4) rfl)))) (pss_one (ps_ret (pv 2))))), ?_⟩)
  · obtain ⟨ca, ya, ws, xs, ys, rfl, _⟩ := h
    rfl
  obtain ⟨ca, ya, ws, xs, ys, rfl, hc, pr, h7, hy, hl, hz, k⟩ := h
  have hlw := Paired.length pr
  have hly : (ys.map V.int).length = ys.length := List.length_map ..
  walk_at "rd"
  intro q nq
  obtain ⟨s1, hq⟩ := al2 (o := .dT []) nq
  generalize upd H q (.dT []) = H1 at s1 hq ⊢
  refine ⟨?_⟩
  refine ⟨_, rfl, _, rfl, ca, ya, ws, ys.map V.int, rfl, SqL.of (s1 _ _ hc), SqL.of (s1 _ _ hy), ?_⟩
  refine for_it (walk_zip (xs := ws) (ys := ys.map V.int) (n := xs.length) (by rw [hly]; omega)) (fun i σ H' => Nx (∃ (x3 x4 x5 : Option V), σ = [some (.ref ca), some (.ref ya), some (.ref q), x3, x4, x5] ∧ Same H H' ∧ ChoS H H' q (chOf ((xs.zip ys).take i)) i)) ⟨_, _, _, rfl, s1, ⟨[], hq, Nat.le_refl _, fun t i => .inl ⟨rfl, fun c => rfl⟩⟩⟩ (fun i σ H' _ h => ?_) ?_ ?_
  · obtain ⟨_, _, _, _, s2, _⟩ := h.h
    exact ⟨SqL.of (s2 _ _ hc), SqL.of (s2 _ _ hy)⟩
  · rintro i v σ H2 H2' hi ⟨x3, x4, x5, rfl, s2, hch⟩ ⟨tp, vx, vy, rfl, ntp, rfl, evx, evy⟩
    have evx : ws[i]? = some vx := evx
    have evy : (ys.map V.int)[i]? = some vy := evy
    obtain ⟨x, hx, xa, rfl, hxa⟩ := paired_get' pr evx
    obtain ⟨y, hy', rfl⟩ := map_get evy
    have hxl := h7 x (List.mem_of_getElem? hx)
    obtain ⟨kd, t, id, c, a, b, d, rfl⟩ := seven hxl
    obtain ⟨s3, htp⟩ := al2 (o := .tup [V.ref xa, V.int y]) ntp
    generalize upd H2 tp (.tup [V.ref xa, V.int y]) = H3 at s3 htp ⊢
    have s03 := s2.trans s3
    have hxa3 : H3 xa = some (.tup [V.int kd, V.int t, V.int id, V.int c, V.int a, V.int b, V.int d]) := s03 _ _ hxa
    obtain ⟨kvs, hkv, hkl, hh⟩ := hch.ex
    have hkv3 := s3 _ _ hkv
    have isd : IsD H3 q := .inr ⟨kvs, .inl hkv3⟩
    walk_at "rd"
    refine ⟨by show ¬ (HT.sIx 7 0 (some 1) = 0 ∧ HT.sIx 7 7 (some 3) = 7); decide, fun t1 n1 => ?_⟩
    have ecut : cutV [V.int kd, V.int t, V.int id, V.int c, V.int a, V.int b, V.int d] (some 1) (some 3) = [V.int t, V.int id] := rfl
    rw [ecut]
    obtain ⟨s4, ht1⟩ := al2 (o := .tup [V.int t, V.int id]) n1
    generalize upd H3 t1 (.tup [V.int t, V.int id]) = H4 at s4 ht1 ⊢
    walk_at "rd"
    intro e1 ne1
    obtain ⟨s5, he1⟩ := al2 (o := .dK []) ne1
    generalize upd H4 e1 (.dK []) = H5 at s5 he1 ⊢
    have s25 := (s3.trans s4).trans s5
    have s05 := s2.trans s25
    have hkv5 := s25 _ _ hkv
    have ht15 : H5 t1 = some (.tup (([.inl t, .inl id] : List Key).map kV)) := s5 _ _ ht1
    have hkl5 : kvs.length < sizeLine := Nat.lt_of_lt_of_le (show kvs.length < 100000 by omega) (by decide : 100000 ≤ sizeLine)
    have e1H : H e1 = none := fresh_of (as := []) (Kp.of_same ((s2.trans s3).trans s4)) ne1 (by simp)
    have e1q : e1 ≠ q := fun z => by rw [z, (s3.trans s4) _ _ hkv] at ne1; cases ne1
    have hxa5 : H5 xa = some (.tup [V.int kd, V.int t, V.int id, V.int c, V.int a, V.int b, V.int d]) := s05 _ _ hxa
    have eZ : (xs.zip ys).take (i + 1) = (xs.zip ys).take i ++ [([kd, t, id, c, a, b, d], y)] := take_more (zip_at hx hy')
    have chN : ∀ t' i' c', chAdd (chOf ((xs.zip ys).take i)) [kd, t, id, c, a, b, d] y t' i' c' = if t' = t ∧ i' = id ∧ c' = c then some y else chOf ((xs.zip ys).take i) t' i' c' := fun _ _ _ => rfl
    have chO : ∀ t' i', ¬ (t' = t ∧ i' = id) → chAdd (chOf ((xs.zip ys).take i)) [kd, t, id, c, a, b, d] y t' i' = chOf ((xs.zip ys).take i) t' i' := fun t' i' hn => by
      funext c'
      rw [chN, if_neg (fun z => hn ⟨z.1, z.2.1⟩)]
    refine ⟨kvs, [.inl t, .inl id], t1, hkv5, rfl, ht15, hkl5, fun v hv => ?_, fun hv H6 e6 => ?_⟩
    · -- there already
      rcases hh t id with ⟨h1, _⟩ | ⟨rc, ck, h1, hck, hcl, hval, h3, h4⟩
      · rw [h1] at hv; cases hv
      rw [h1] at hv
      obtain rfl := Option.some.inj hv
      have hck5 := s25 _ _ hck
      have hckl : ck.length < sizeLine := Nat.lt_of_lt_of_le (show ck.length < 100000 by omega) (by decide : 100000 ≤ sizeLine)
      have rcq : rc ≠ q := fun z => by rw [z, hkv] at hck; cases hck
      walk_at "rd"
      refine And.intro (by exact DPut.k (k := .inl c) hck5 hckl) ?_
      refine ⟨⟨_, _, _, rfl, fun b u e => by rw [upd_ne (ne_of_none e h3)]; exact s05 b u e, kvs, by rw [upd_ne (Ne.symm rcq)]; exact hkv5, by omega, fun t' i' => ?_⟩⟩
      rw [eZ, chOf_snoc]
      by_cases c1 : t' = t ∧ i' = id
      · obtain ⟨rfl, rfl⟩ := c1
        refine .inr ⟨rc, putK ck (.inl c) (.int y), h1, upd_same, ?_, fun c' => ?_, h3, h4⟩
        · have := length_putK ck (.inl c) (V.int y)
          omega
        · rw [valV_put, chN]
          by_cases c2 : c' = c
          · rw [if_pos (by rw [c2]), if_pos ⟨rfl, rfl, c2⟩]; rfl
          · rw [if_neg (fun z => c2 (Sum.inl.inj z)), if_neg (fun z => c2 z.2.2)]; exact hval c'
      · rw [chO t' i' c1]
        rcases hh t' i' with g | ⟨rc', ck', g1, g2, g3, g4, g5, g6⟩
        · exact .inl g
        · have rne : rc' ≠ rc := fun z => by
            rw [z] at g1
            exact c1 (h4 t' i' g1)
          exact .inr ⟨rc', ck', g1, by rw [upd_ne rne]; exact s25 _ _ g2, by omega, g4, g5, g6⟩
    · -- new
      have hnoch : ∀ c', chOf ((xs.zip ys).take i) t id c' = none := by
        rcases hh t id with ⟨_, h2⟩ | ⟨rc, ck, h1, _⟩
        · exact h2
        · rw [h1] at hv; cases hv
      have hkv6 : H6 q = some (.dT (kvs ++ [([.inl t, .inl id], .ref e1)])) := by rw [e6, upd_same, putK_new _ hv]
      have he16 : H6 e1 = some (.dK []) := by rw [e6, upd_ne e1q]; exact he1
      have ne6 : ∀ {b : Addr} {u : HO}, b ≠ q → H5 b = some u → H6 b = some u := fun {b u} n e => by rw [e6, upd_ne n]; exact e
      have hxa6 : H6 xa = some (.tup [V.int kd, V.int t, V.int id, V.int c, V.int a, V.int b, V.int d]) := ne6 (fun z => by rw [z, hkv5] at hxa5; cases hxa5) hxa5
      have s06 : Same H H6 := fun b u e => ne6 (ne_of_none e nq) (s05 b u e)
      have vput : ∀ k', valV (kvs ++ [(([.inl t, .inl id] : List Key), V.ref e1)]) k' = if k' = [.inl t, .inl id] then some (.ref e1) else valV kvs k' := fun k' => by rw [← putK_new _ hv, valV_put]
      have kne : ∀ (rc' : Addr) (ck' : List (Key × V)), H2 rc' = some (.dK ck') → rc' ≠ e1 := fun rc' ck' g z => by
        rw [z] at g
        rw [(s3.trans s4) _ _ g] at ne1; cases ne1
      walk_at "rd"
      refine And.intro (by exact DPut.k (k := .inl c) he16 (by show 0 < sizeLine; decide)) ?_
      refine ⟨⟨_, _, _, rfl, fun b u e => by rw [upd_ne (ne_of_none e e1H)]; exact s06 b u e, _, by rw [upd_ne (Ne.symm e1q)]; exact hkv6, by rw [List.length_append]; show kvs.length + 1 ≤ i + 1; omega, fun t' i' => ?_⟩⟩
      rw [eZ, chOf_snoc]
      by_cases c1 : t' = t ∧ i' = id
      · obtain ⟨rfl, rfl⟩ := c1
        refine .inr ⟨e1, _, by rw [vput, if_pos rfl], upd_same, by show 1 ≤ i + 1; omega, fun c' => ?_, e1H, fun t2 i2 z => ?_⟩
        · rw [valV_put, chN]
          by_cases c2 : c' = c
          · rw [if_pos (by rw [c2]), if_pos ⟨rfl, rfl, c2⟩]; rfl
          · rw [if_neg (fun z => c2 (Sum.inl.inj z)), if_neg (fun z => c2 z.2.2), hnoch]; rfl
        · rw [vput] at z
          split at z
          · rename_i hk
            exact key_inj hk
          · exfalso
            rcases hh t2 i2 with ⟨g, _⟩ | ⟨rc', ck', g1, g2, _⟩
            · rw [g] at z; cases z
            · rw [g1] at z
              injection z with z
              injection z with z
              exact kne rc' ck' g2 z
      · rw [chO t' i' c1]
        have hk : ¬ ([.inl t', .inl i'] : List Key) = [.inl t, .inl id] := fun z => c1 (key_inj z)
        rcases hh t' i' with ⟨g1, g2⟩ | ⟨rc', ck', g1, g2, g3, g4, g5, g6⟩
        · exact .inl ⟨by rw [vput, if_neg hk]; exact g1, g2⟩
        · have rne := kne rc' ck' g2
          have rq : rc' ≠ q := fun z => by rw [z, hkv] at g2; cases g2
          refine .inr ⟨rc', ck', by rw [vput, if_neg hk]; exact g1, by rw [upd_ne rne]; exact ne6 rq (s25 _ _ g2), by omega, g4, g5, fun t2 i2 z => ?_⟩
          rw [vput] at z
          split at z
          · injection z with z
            injection z with z
            exact absurd z.symm rne
          · exact g6 t2 i2 z
  · rintro σ H2 ⟨x3, x4, x5, rfl, s2, hch⟩
    rw [List.take_of_length_le (by rw [List.length_zip]; omega)] at hch
    walk_at "rd"
    exact k q H2 nq s2 hch.at
end Tw
namespace Tw
open PySem PySem.Spec PyProof.Rows L2
open VauowBase (findRow Db tableAt dbData)

variable {P : Program} {w : World} {K : PySem.W.Frag} {mg : Str → Option Value} {base : Heap} {ad : Ads}
/-! ### numbers_of -/
def rowD (r : VauowBase.Row) : List Int := (r.id : Int) :: r.vals
def tabD (t : List VauowBase.Row) : List Int := (t.length : Int) :: t.flatMap rowD
theorem dbData_eq (d : Db) : dbData d = d.flatMap tabD := rfl
theorem rowD_len {n : Nat} {rs : List VauowBase.Row} (t : TO n rs) (hn : n ≤ 4) : ∀ r ∈ rs, (rowD r).length ≤ 5 := fun r hr => by
  show r.vals.length + 1 ≤ 5
  have := (t.rows r hr).len
  omega
theorem tabD_len {n : Nat} {rs : List VauowBase.Row} (t : TO n rs) (hn : n ≤ 4) : (tabD rs).length ≤ 41 := by
  show (rs.flatMap rowD).length + 1 ≤ 41
  have := flat_len (f := rowD) (c := 5) (l := rs) (rowD_len t hn)
  have := t.len
  omega
abbrev s_numbers_of : Stmt := top 93
theorem sc_numbers_of : FnScope ["tables", "numbers", "rows", "row_id"] ["tables"] (defScope s_numbers_of) := ⟨rfl, rfl, rfl, by decide +kernel, rfl, by decide +kernel, by decide +kernel⟩
def sp_numbers_of : Sp := fun vs H Q _ => ∃ (ta : Addr) (d : Db) (sch : VauowBase.Schema), vs = [.ref ta] ∧ DbAt H ta d ∧ GS sch ∧ DO sch d ∧
  ∀ q H', H q = none → Same H H' → H' q = some (.lst ((dbData d).map V.int)) → Q (.ref q) H'
theorem ok_numbers_of {f : Addr} {fd : FuncData} (T : Tp K mg ad) (F : Fun K "numbers_of" "numbers_of" s_numbers_of f fd) : FnOk P w K mg base CX0 1 f fd ["tables"] sp_numbers_of := by
  refine F.ok sc_numbers_of (fun vs H Q E h => ?_) (fun cdv A outer s H vs Q E hr h => ⟨_, (pss_cons (ps_set (i := 1) sc_numbers_of.nd rfl (.inl rfl) (pe_lst pa_nil)) (pss_cons (ps_forO PassesOwn.never rfl (pi_list (pv 0)) (pg_name (i := 2) sc_numbers_of.nd rfl (.inl rfl)) (pss_cons (ps_expr (pe_bm PySem.F.plainAttrs_list PySem.F.slot_list_append PySem.F.type_list_append mt_appL (pv 1) (pa_cons (pe_callB call_lenD (by rfl) T.b_len (by decide +kernel) (pa_cons (pv 2) pa_nil)) pa_nil))) (pss_one (ps_forO PassesOwn.never rfl (pi_list (pe_callB (call_sortedDI rfl) (by rfl) T.b_sorted (by decide +kernel) (pa_cons (pv 2) pa_nil))) (pg_name (i := 3) sc_numbers_of.nd rfl (.inl rfl)) (pss_cons (ps_expr (pe_bm PySem.F.plainAttrs_list PySem.F.slot_list_append PySem.F.type_list_append mt_appL (pv 1) (pa_cons (pv 3) pa_nil))) (pss_one (ps_expr (pe_bm PySem.F.plainAttrs_list PySem.F.slot_list_extend PySem.F.type_list_extend mt_extendT (pv 1) (pa_cons (pe_dget (hu_of hr) (pv 2) (pv 3) (fun _ _ => rfl)) pa_nil))))))))) (pss_one (ps_ret (pv 1))))), ?_⟩)
  · obtain ⟨ta, d, sch, rfl, _⟩ := h
    rfl
  obtain ⟨ta, d, sch, rfl, hd, gs, dd, k⟩ := h
  obtain ⟨das, hta, pd⟩ := hd.ex
  have hld : (das.map V.ref).length = sch.length := by rw [List.length_map, Paired.length pd, dd.len]
  have hsl := gs.len
  walk_at "rd"
  intro q nq
  obtain ⟨s1, hq⟩ := al2 (o := .lst []) nq
  generalize upd H q (.lst []) = H1 at s1 hq ⊢
  refine ⟨_, rfl, ta, rfl, ⟨_, SqL.of (s1 _ _ hta)⟩, for_it (walk_list (xs := das.map V.ref)) (fun i σ H' => Nx (∃ (x2 x3 : Option V), σ = [some (.ref ta), some (.ref q), x2, x3] ∧ Same H H' ∧ H' q = some (.lst (((d.take i).flatMap tabD).map V.int)))) ⟨_, _, rfl, s1, by rw [List.take_zero]; exact hq⟩ (fun i σ H' _ h => ?_) ?_ ?_⟩
  · obtain ⟨_, _, _, s', _⟩ := h.h
    exact SqL.of (s' _ _ hta)
  · rintro i v σ H2 H2' hi ⟨x2, x3, rfl, s2, hq2⟩ ⟨rfl, hv⟩
    rw [hld] at hi
    obtain ⟨da, hda, rfl⟩ := map_get hv
    obtain ⟨rs, hdi, htab⟩ := paired_get' pd hda
    obtain ⟨tb, hsi⟩ : ∃ z, sch[i]? = some z := ⟨sch[i]'hi, by simp [hi]⟩
    have tt := dd.tabs i rs tb hdi hsi
    have gt := gs.tabs tb (List.mem_of_getElem? hsi)
    obtain ⟨kvs, hkv, prk⟩ := htab.ex
    have hkv2 := s2 _ _ hkv
    have hkl : kvs.length = rs.length := Paired.length prk
    have lenA : (((d.take i).flatMap tabD).map V.int).length ≤ 200 := by
      rw [List.length_map]
      have := flat_len (f := tabD) (c := 41) (l := d.take i) fun x hx => by
        obtain ⟨j, hj⟩ := List.mem_iff_getElem?.mp hx
        rw [List.getElem?_take] at hj
        split at hj
        · rename_i hji
          have hjs : j < sch.length := by omega
          exact tabD_len (dd.tabs j x sch[j] hj (by simp [hjs])) (gs.tabs _ (List.getElem_mem hjs)).len
        · cases hj
      rw [List.length_take] at this
      omega
    have hrd : Rd H2' da (.dK kvs) := .inl hkv2
    have hks := keys_ids prk
    have h64 : (rs.map fun r => (r.id : Int)).length < 64 := by rw [List.length_map]; have := tt.len; omega
    walk_at "rd"
    intro H3 e3
    have hq3 : H3 q = some (.lst (((d.take i).flatMap tabD ++ [(rs.length : Int)]).map V.int)) := by rw [e3, upd_same, List.map_append, hkl]; rfl
    have s03 : Same H H3 := fun b u e => by rw [e3, upd_ne (ne_of_none e nq)]; exact s2 b u e
    clear e3
    have hkv3 := s03 _ _ hkv
    have hrd3 : Rd H3 da (.dK kvs) := .inl hkv3
    refine ⟨?_⟩
    walk_at "rd"
    intro ys p hp1 hp2 np
    obtain rfl := perm_sorted hp1 hp2 (ris_pair tt.ris)
    obtain ⟨s4, hp⟩ := al2 (o := .lst ((rs.map fun r => (r.id : Int)).map V.int)) np
    generalize upd H3 p (.lst ((rs.map fun r => (r.id : Int)).map V.int)) = H4 at s4 hp ⊢
    have hpq : p ≠ q := fun z => by rw [z, hq3] at np; cases np
    have hlr : ((rs.map fun r => (r.id : Int)).map V.int).length = rs.length := by rw [List.length_map, List.length_map]
    have e5 : d.take (i + 1) = d.take i ++ [rs] := take_more hdi
    refine ⟨p, rfl, ⟨_, SqL.of hp⟩, for_it (walk_list (xs := (rs.map fun r => (r.id : Int)).map V.int)) (fun j σ H' => Nx (∃ (x3 : Option V), σ = [some (.ref ta), some (.ref q), some (.ref da), x3] ∧ Same H H' ∧ H' p = some (.lst ((rs.map fun r => (r.id : Int)).map V.int)) ∧ H' q = some (.lst (((d.take i).flatMap tabD ++ [(rs.length : Int)] ++ (rs.take j).flatMap rowD).map V.int)))) ⟨_, rfl, s03.trans s4, hp, by rw [List.take_zero, List.flatMap_nil, List.append_nil]; exact s4 _ _ hq3⟩ (fun j σ H' _ h => ?_) ?_ ?_⟩
    · obtain ⟨_, _, _, s', _⟩ := h.h
      exact SqL.of s'
    · rintro j v σ H5 H5' hj ⟨x3, rfl, s5, hp5, hq5⟩ ⟨rfl, hv⟩
      obtain ⟨z, hz, rfl⟩ := map_get hv
      obtain ⟨r, hr, rfl⟩ := map_get hz
      have hrm := List.mem_of_getElem? hr
      obtain ⟨ra, hkey, hra⟩ := key_some prk (find_self tt.ris r hrm)
      have lenB : (((d.take i).flatMap tabD ++ [(rs.length : Int)] ++ (rs.take j).flatMap rowD).map V.int).length ≤ 400 := by
        rw [List.length_map, List.length_append, List.length_append]
        have := flat_len (f := rowD) (c := 5) (l := rs.take j) fun x hx => rowD_len tt gt.len x (List.mem_of_mem_take hx)
        rw [List.length_take] at this
        rw [List.length_map] at lenA
        have := tt.len
        show _ + 1 + _ ≤ 400
        omega
      walk_at "rd"
      intro H6 e6
      have hq6 : H6 q = some (.lst (((d.take i).flatMap tabD ++ [(rs.length : Int)] ++ (rs.take j).flatMap rowD).map V.int ++ [V.int (r.id : Int)])) := by rw [e6, upd_same]
      have s06 : Same H H6 := fun b u e => by rw [e6, upd_ne (ne_of_none e nq)]; exact s5 b u e
      have hp6 : H6 p = some (.lst ((rs.map fun r => (r.id : Int)).map V.int)) := by rw [e6, upd_ne hpq]; exact hp5
      clear e6
      have hkv6 := s06 _ _ hkv
      have hg : DGet H6 da (.int (r.id : Int)) (some (.ref ra)) := .inl ⟨kvs, .inl (r.id : Int), .inl hkv6, rfl, hkey.symm⟩
      have hra6 := s06 _ _ hra
      have lenC : (((d.take i).flatMap tabD ++ [(rs.length : Int)] ++ (rs.take j).flatMap rowD).map V.int ++ [V.int (r.id : Int)]).length + (r.vals.map V.int).length ≤ 500 := by
        rw [List.length_append, List.length_map (f := V.int) (as := r.vals)]
        have := (tt.rows r hrm).len
        have := gt.len
        show _ + 1 + _ ≤ 500
        omega
      walk_at "rd"
      intro H7 e7
      have hq7 : H7 q = some (.lst (((d.take i).flatMap tabD ++ [(rs.length : Int)] ++ (rs.take (j + 1)).flatMap rowD).map V.int)) := by
        rw [e7, upd_same, take_more hr, List.flatMap_append, List.flatMap_singleton]
        show _ = some (HO.lst ((_ ++ (_ ++ ((r.id : Int) :: r.vals))).map V.int))
        rw [← List.append_assoc, List.map_append (l₂ := (r.id : Int) :: r.vals), List.map_cons, List.append_assoc]
        rfl
      have s07 : Same H H7 := fun b u e => by rw [e7, upd_ne (ne_of_none e nq)]; exact s06 b u e
      have hp7 : H7 p = some (.lst ((rs.map fun r => (r.id : Int)).map V.int)) := by rw [e7, upd_ne hpq]; exact hp6
      clear e7
      walk_at "rd"
      exact ⟨⟨_, rfl, s07, hp7, hq7⟩⟩
    · rintro σ H5 ⟨x3, rfl, s5, hp5, hq5⟩
      rw [hlr, List.take_length] at hq5
      walk_at "rd"
      refine ⟨⟨_, _, rfl, s5, ?_⟩⟩
      rw [hq5, e5, List.flatMap_append, List.flatMap_singleton, List.append_assoc]
      rfl
  · rintro σ H2 ⟨x2, x3, rfl, s2, hq2⟩
    rw [hld, List.take_of_length_le (by rw [dd.len]; omega)] at hq2
    walk_at "rd"
    exact k q H2 nq s2 hq2
end Tw
namespace Tw
open PySem PySem.Spec PyProof.Rows L2
open VauowBase (findRow Db tableAt dbData brokenIn Broken)

variable {P : Program} {w : World} {K : PySem.W.Frag} {mg : Str → Option Value} {base : Heap} {ad : Ads}
/-! ### first_unfit -/
structure TW (n : Nat) (rs : List VauowBase.Row) : Prop where
  len : rs.length ≤ 100
  ris : risF 0 rs = true
  rows : ∀ r ∈ rs, RO n r
structure DW (s : VauowBase.Schema) (d : Db) : Prop where
  len : d.length = s.length
  tabs : ∀ (t : Nat) (rs : List VauowBase.Row) (tb : VauowBase.Table), d[t]? = some rs → s[t]? = some tb → TW tb.columns.length rs
theorem DW.do {s : VauowBase.Schema} {d : Db} (h : DW s d) (h8 : ∀ rs ∈ d, rs.length ≤ 8) : DO s d :=
  ⟨h.len, fun t rs tb h1 h2 => ⟨h8 rs (List.mem_of_getElem? h1), (h.tabs t rs tb h1 h2).ris, (h.tabs t rs tb h1 h2).rows⟩⟩
theorem unfit_some {s : VauowBase.Schema} {d : Db} {i : Nat} {rs : List VauowBase.Row} (h1 : ∀ r ∈ d.take i, r.length ≤ 8) (hi : d[i]? = some rs) (h : 8 < rs.length) : Vauowd.brokenOf s d = some { code := 5, table := i, id := 0, column := 0 } := by
  unfold Vauowd.brokenOf
  have : d.findIdx? (fun t => decide (VauowBase.ROWS < t.length)) = some i := by
    obtain ⟨hl, he⟩ := List.getElem?_eq_some_iff.mp hi
    rw [List.findIdx?_eq_some_iff_getElem]
    refine ⟨hl, ?_, fun j hj => ?_⟩
    · rw [he]; exact decide_eq_true h
    · have := h1 d[j] (List.mem_iff_getElem?.mpr ⟨j, by rw [List.getElem?_take, if_pos hj, List.getElem?_eq_getElem (by omega)]⟩)
      rw [decide_eq_false (show ¬ VauowBase.ROWS < d[j].length from Nat.not_lt.mpr this)]; decide
  rw [this]
theorem unfit_none {s : VauowBase.Schema} {d : Db} (h : ∀ r ∈ d, r.length ≤ 8) : Vauowd.brokenOf s d = (brokenIn s d).head? := by
  unfold Vauowd.brokenOf
  have : d.findIdx? (fun t => decide (VauowBase.ROWS < t.length)) = none := by
    rw [List.findIdx?_eq_none_iff]
    intro r hr
    exact decide_eq_false (Nat.not_lt.mpr (h r hr))
  rw [this]
abbrev s_first_unfit : Stmt := top 100
theorem sc_first_unfit : FnScope ["schema", "tables", "number", "rows"] ["schema", "tables"] (defScope s_first_unfit) := ⟨rfl, rfl, rfl, by decide +kernel, rfl, by decide +kernel, by decide +kernel⟩
def sp_first_unfit (ad : Ads) : Sp := fun vs H Q _ => ∃ (sl tl : Addr) (s : VauowBase.Schema) (d : Db), vs = [.ref sl, .ref tl] ∧ SchAt ad H sl s ∧ DbAt H tl d ∧ GS s ∧ DW s d ∧
  ∀ q H', H q = none → Same H H' → H' q = some (.lst (brkB (Vauowd.brokenOf s d))) → Q (.ref q) H'
theorem ok_first_unfit {f : Addr} {fd : FuncData} (T : Tp K mg ad) (c_first_broken : Fc P w K mg base CX0 3 "first_broken" ["schema", "tables"] (sp_first_broken ad))
    (F : Fun K "first_unfit" "first_unfit" s_first_unfit f fd) : FnOk P w K mg base CX0 4 f fd ["schema", "tables"] (sp_first_unfit ad) := by
  refine F.ok sc_first_unfit (fun vs H Q E h => ?_) (fun cdv A outer s H vs Q E hr h => ⟨_, (pss_cons (ps_forO PassesOwn.never rfl (pi_enum (by rfl) T.b_enumerate (pa_cons (pv 1) pa_nil)) (pg_tup (by rfl) (pgs_cons (pg_name (i := 2) sc_first_unfit.nd rfl (.inl rfl)) (pgs_cons (pg_name (i := 3) sc_first_unfit.nd rfl (.inl rfl)) pgs_nil))) (pss_one (ps_if (pt_cmpR op_gt (pe_callB call_lenD (by rfl) T.b_len (by decide +kernel) (pa_cons (pv 3) pa_nil)) (pe_cst (by rfl) T.k_MOST_ROWS) (nomark _)) (pss_one (ps_ret (pe_lst (pa_cons (pe_cst (by rfl) T.k_TOO_MANY_ROWS) (pa_cons (pv 2) (pa_cons pe_int (pa_cons pe_int pa_nil))))))) pss_nil))) (pss_one (ps_ret (pe_fc c_first_broken (hr.mono (by decide)) (by rfl) (pa_cons (pv 0) (pa_cons (pv 1) pa_nil)))))), ?_⟩)
  · obtain ⟨sl, tl, s, d, rfl, _⟩ := h
    rfl
  obtain ⟨sl, tl, s, d, rfl, hs, hd, gs, dw, k⟩ := h
  obtain ⟨das, hta, pd⟩ := hd.ex
  have hld : (das.map V.ref).length = d.length := by rw [List.length_map, Paired.length pd]
  refine ⟨?_⟩
  refine ⟨_, rfl, tl, das.map V.ref, rfl, SqL.of hta, ?_⟩
  refine for_it (walk_enum (xs := das.map V.ref)) (fun i σ H' => Nx (∃ x3 x4 : Option V, σ = [some (.ref sl), some (.ref tl), x3, x4] ∧ Same H H' ∧ ∀ r ∈ d.take i, r.length ≤ 8)) ⟨_, _, rfl, Same.refl _, by simp⟩ (fun i σ H' _ q => ?_) ?_ ?_
  · obtain ⟨_, _, _, s', _⟩ := q.h
    exact SqL.of (s' _ _ hta)
  · rintro i v σ H2 H2' hi ⟨x3, x4, rfl, s2, h8⟩ ⟨T', x, y, rfl, nT, rfl, hx, hy⟩
    obtain rfl := Option.some.inj hx
    obtain ⟨da, hda, rfl⟩ := map_get hy
    obtain ⟨rs, hdi, htab⟩ := paired_get' pd hda
    obtain ⟨s3', hT⟩ := al2 (o := .tup [V.int (i : Nat), V.ref da]) nT
    generalize upd H2 T' (.tup [V.int (i : Nat), V.ref da]) = H3 at s3' hT ⊢
    have s3 := s2.trans s3'
    obtain ⟨kvs, hkv, prk⟩ := htab.ex
    have hkv3 := s3 _ _ hkv
    have hrd : Rd H3 da (.dK kvs) := .inl hkv3
    have hkl : kvs.length = rs.length := Paired.length prk
    walk_at "rd"
    refine ifd (fun c1 => ?_) (fun c1 => ?_)
    · have c1 : 8 < rs.length := by
        have c1 : (8 : Int) < (kvs.length : Nat) := c1
        omega
      rw [unfit_some h8 hdi c1] at k
      walk_at "rd"
      intro q nq
      exact k q _ (fresh_of (as := []) (Kp.of_same s3) nq (by simp)) (s3.trans (al2 nq).1) upd_same
    · have c1 : rs.length ≤ 8 := by
        have c1 : ¬ (8 : Int) < (kvs.length : Nat) := c1
        omega
      walk_at "rd"
      refine ⟨⟨_, _, rfl, s3, fun r hr => ?_⟩⟩
      rw [take_more hdi, List.mem_append, List.mem_singleton] at hr
      rcases hr with hr | rfl
      · exact h8 r hr
      · exact c1
  · rintro σ H2 ⟨x3, x4, rfl, s2, h8⟩
    rw [hld, List.take_length] at h8
    rw [unfit_none h8] at k
    have hs2 := hs.same s2
    have hd2 := hd.same s2
    have dd := dw.do h8
    walk_at "rd"
    exact fun q H' nq s' hq => k q H' (fresh_of (as := []) (Kp.of_same s2) nq (by simp)) (s2.trans s') hq
end Tw
namespace Tw
open VauowBase (findRow Db tableAt rowAt Schema)
open Vauowd (idsOf insertNum placesOf Side sideAt Clash rowClash clashesOf fieldsApart unlikeFields isMine mergeRow mergedBy mergeField choicesOf Choices changesOf kindOf clashRow valueOf toInts)
/-! ### the document's words against the program's lists -/
theorem vo_eq {rs rs' : List VauowBase.Row} {i : Nat} : vo rs i = vo rs' i ↔ findRow rs i = findRow rs' i := by
  unfold vo
  constructor
  · intro h
    cases h1 : findRow rs i with
    | none =>
      rw [h1] at h
      cases h2 : findRow rs' i with
      | none => rfl
      | some q => rw [h2] at h; cases h
    | some r =>
      rw [h1] at h
      cases h2 : findRow rs' i with
      | none => rw [h2] at h; cases h
      | some q =>
        rw [h2] at h
        have h : some r.vals = some q.vals := h
        injection h with h
        have e1 := (find_mem h1).2
        have e2 := (find_mem h2).2
        cases r; cases q
        cases h; cases e1; cases e2; rfl
  · intro h; rw [h]
theorem ris_nodup {l : List Nat} (h : l.Pairwise (· < ·)) : l.Nodup := h.imp fun h => Nat.ne_of_lt h
theorem ids_three (b s o : List VauowBase.Row) (x : Nat) : x ∈ idsOf o (idsOf s (idsOf b [])) ↔ (∃ r ∈ b, r.id = x) ∨ (∃ r ∈ s, r.id = x) ∨ ∃ r ∈ o, r.id = x := by
  rw [ids_mem, ids_mem, ids_mem]
  constructor
  · rintro ((( h | h) | h) | h)
    · cases h
    · exact .inl h
    · exact .inr (.inl h)
    · exact .inr (.inr h)
  · rintro (h | h | h)
    · exact .inl (.inl (.inr h))
    · exact .inl (.inr h)
    · exact .inr h
theorem ids_three_ris (b s o : List VauowBase.Row) : (idsOf o (idsOf s (idsOf b []))).Pairwise (· < ·) := ids_ris _ _ (ids_ris _ _ (ids_ris _ _ List.Pairwise.nil))
theorem nat_ris_eq {l m : List Nat} (hl : l.Pairwise (· < ·)) (hm : m.Pairwise (· < ·)) (h : ∀ x, x ∈ l ↔ x ∈ m) : l = m := by
  refine List.Perm.eq_of_pairwise (le := (· < ·)) (fun a b _ _ h1 h2 => absurd h1 (Nat.not_lt.mpr (Nat.le_of_lt h2))) hl hm ?_
  exact (List.perm_ext_iff_of_nodup (ris_nodup hl) (ris_nodup hm)).mpr h
/-- what is elsewhere is left out -/
theorem ids_cut (b s o : List VauowBase.Row) : (idsOf o (idsOf s (idsOf b []))).filter (fun x => decide (x ∈ ids2 s o)) = ids2 s o := by
  refine nat_ris_eq ((ids_three_ris b s o).filter _) (ids2_ris s o) fun x => ?_
  rw [List.mem_filter, decide_eq_true_eq, ids_three, ids2_mem]
  constructor
  · exact fun h => h.2
  · exact fun h => ⟨.inr h, h⟩
theorem flat_cut {β : Type} {f : Nat → List β} {p : Nat → Bool} : ∀ {l : List Nat}, (∀ x ∈ l, p x = false → f x = []) → (l.filter p).flatMap f = l.flatMap f
  | [], _ => rfl
  | x :: l, h => by
    rw [List.filter_cons, List.flatMap_cons]
    have ih := flat_cut (f := f) (p := p) (l := l) fun y hy => h y (by simp [hy])
    cases e : p x with
    | true => rw [if_pos rfl, List.flatMap_cons, ih]
    | false => rw [if_neg (by decide), h x (by simp) e, ih, List.nil_append]
theorem fm_cut {β : Type} {f : Nat → Option β} {p : Nat → Bool} : ∀ {l : List Nat}, (∀ x ∈ l, p x = false → f x = none) → (l.filter p).filterMap f = l.filterMap f
  | [], _ => rfl
  | x :: l, h => by
    rw [List.filter_cons]
    have ih := fm_cut (f := f) (p := p) (l := l) fun y hy => h y (by simp [hy])
    cases e : p x with
    | true => rw [if_pos rfl, List.filterMap_cons, List.filterMap_cons, ih]
    | false => rw [if_neg (by decide), List.filterMap_cons, h x (by simp) e, ih]
theorem find_none {rs : List VauowBase.Row} {i : Nat} (h : ¬ ∃ r ∈ rs, r.id = i) : findRow rs i = none := by
  cases e : findRow rs i with
  | none => rfl
  | some r => exact absurd ⟨r, find_mem e⟩ h
/-! ### changes -/
theorem places2 (s : Schema) (b o : Db) : placesOf s [b, o] = (List.range s.length).flatMap fun t => (ids2 (tableAt b t) (tableAt o t)).map fun i => (t, i) := rfl
theorem kd_eq (b o : List VauowBase.Row) (i : Nat) : kdI b o i = (kindOf (findRow b i) (findRow o i) : Nat) := by
  unfold kdI
  cases findRow b i with
  | none => rfl
  | some r =>
    cases findRow o i with
    | none => rfl
    | some q => rfl
def chRow (b o : Db) (z : Nat × Nat) : List Int := toInts [kindOf (rowAt b z.1 z.2) (rowAt o z.1 z.2), z.1, z.2]
theorem filter_flat {α β : Type} {p : β → Bool} {f : α → List β} : ∀ l : List α, (l.flatMap f).filter p = l.flatMap fun x => (f x).filter p
  | [] => rfl
  | x :: l => by rw [List.flatMap_cons, List.filter_append, filter_flat l, List.flatMap_cons]
theorem map_flat {α β γ : Type} {g : β → γ} {f : α → List β} : ∀ l : List α, (l.flatMap f).map g = l.flatMap fun x => (f x).map g
  | [] => rfl
  | x :: l => by rw [List.flatMap_cons, List.map_append, map_flat l, List.flatMap_cons]
theorem ch_one (b o : Db) (t : Nat) : ∀ l : List Nat, (((l.map fun i => (t, i)).filter fun z => rowAt b z.1 z.2 != rowAt o z.1 z.2).map (chRow b o)) = l.flatMap (ch1 t (tableAt b t) (tableAt o t))
  | [] => rfl
  | i :: l => by
    rw [List.map_cons, List.filter_cons, List.flatMap_cons, ← ch_one b o t l]
    unfold ch1
    by_cases c : vo (tableAt b t) i = vo (tableAt o t) i
    · have c2 := vo_eq.mp c
      rw [if_pos c, if_neg (by show ¬ (findRow (tableAt b t) i != findRow (tableAt o t) i) = true; rw [c2, bne_self_eq_false]; decide)]; rfl
    · have c2 : ¬ findRow (tableAt b t) i = findRow (tableAt o t) i := fun z => c (vo_eq.mpr z)
      rw [if_neg c, if_pos (by show (findRow (tableAt b t) i != findRow (tableAt o t) i) = true; exact bne_iff_ne.mpr c2), List.map_cons, kd_eq]; rfl
theorem ch_spec (s : Schema) (b o : Db) : chM b o s.length = (changesOf s b o).map (chRow b o) := by
  unfold changesOf chM chT
  rw [places2, filter_flat, map_flat]
  refine congrArg (fun f => (List.range s.length).flatMap f) (funext fun t => ?_)
  exact (ch_one b o t _).symm
end Tw
namespace Tw
open VauowBase (findRow Db tableAt rowAt Schema)
open Vauowd (idsOf insertNum placesOf Side sideAt Clash rowClash clashesOf fieldsApart unlikeFields isMine mergeRow mergedBy mergeField choicesOf Choices changesOf kindOf clashRow valueOf toInts)
/-! ### clashes of a row -/
theorem getD_ne {a b : List Int} {c : Nat} (ha : c < a.length) (hb : c < b.length) : (a[c]? != b[c]?) = decide (a.getD c 0 ≠ b.getD c 0) := by
  rw [List.getD_eq_getElem?_getD, List.getD_eq_getElem?_getD, List.getElem?_eq_getElem ha, List.getElem?_eq_getElem hb, Bool.eq_iff_iff, bne_iff_ne, decide_eq_true_eq]
  show some a[c] ≠ some b[c] ↔ a[c] ≠ b[c]
  exact not_congr ⟨fun h => Option.some.inj h, fun h => by rw [h]⟩
theorem filter_cong {α : Type} {p q : α → Bool} : ∀ {l : List α}, (∀ x ∈ l, p x = q x) → l.filter p = l.filter q
  | [], _ => rfl
  | x :: l, h => by
    rw [List.filter_cons, List.filter_cons, h x (by simp), filter_cong fun y hy => h y (by simp [hy])]
theorem apart_eq {w a b : List Int} (h1 : a.length = w.length) (h2 : b.length = w.length) : fieldsApart w a b = (List.range w.length).filter (altB w a b) := by
  unfold fieldsApart
  refine filter_cong fun c hc => ?_
  have hc := List.mem_range.mp hc
  rw [getD_ne (by omega) hc, getD_ne (by omega) hc, getD_ne (by omega) (by omega)]
  unfold altB
  rw [Bool.eq_iff_iff, Bool.and_eq_true, Bool.and_eq_true, decide_eq_true_eq, decide_eq_true_eq, decide_eq_true_eq, decide_eq_true_eq]
  constructor
  · rintro ⟨⟨g1, g2⟩, g3⟩
    exact ⟨Ne.symm g1, g3, Ne.symm g2⟩
  · rintro ⟨g1, g2, g3⟩
    exact ⟨⟨Ne.symm g1, Ne.symm g3⟩, g2⟩
theorem unlike_eq {a b : List Int} (h2 : b.length = a.length) : unlikeFields a b = (List.range a.length).filter fun c => a.getD c 0 != b.getD c 0 := by
  unfold unlikeFields
  refine filter_cong fun c hc => ?_
  have hc := List.mem_range.mp hc
  rw [getD_ne hc (by omega), Bool.eq_iff_iff, decide_eq_true_eq, bne_iff_ne]
theorem row_eq {r q : VauowBase.Row} (h : r.id = q.id) : some r = some q ↔ some r.vals = some q.vals := by
  constructor
  · intro h; rw [Option.some.inj h]
  · intro h2
    cases r; cases q
    cases h
    cases (Option.some.inj h2)
    rfl
/-- rows of one id on three sides -/
structure Tri (x : Side) (i n : Nat) : Prop where
  w : ∀ r, x.was = some r → r.id = i ∧ r.vals.length = n
  t : ∀ r, x.theirs = some r → r.id = i ∧ r.vals.length = n
  m : ∀ r, x.mine = some r → r.id = i ∧ r.vals.length = n
theorem tri_at {n i t : Nat} {b s o : Db} (hb : TO n (tableAt b t)) (hs : TO n (tableAt s t)) (ho : TO n (tableAt o t)) : Tri (sideAt b s o (t, i)) i n :=
  ⟨fun r h => ⟨(find_mem h).2, (hb.rows r (find_mem h).1).len⟩, fun r h => ⟨(find_mem h).2, (hs.rows r (find_mem h).1).len⟩, fun r h => ⟨(find_mem h).2, (ho.rows r (find_mem h).1).len⟩⟩
theorem opt_vals {a b : Option VauowBase.Row} {i : Nat} (ha : ∀ r, a = some r → r.id = i) (hb : ∀ r, b = some r → r.id = i) : a = b ↔ a.map (·.vals) = b.map (·.vals) := by
  cases a with
  | none =>
    cases b with
    | none => simp
    | some q => simp
  | some r =>
    cases b with
    | none => simp
    | some q =>
      have := row_eq ((ha r rfl).trans (hb q rfl).symm)
      rw [this]; rfl
theorem Tri.eqTW {x : Side} {i n : Nat} (h : Tri x i n) : x.theirs = x.was ↔ x.theirs.map (·.vals) = x.was.map (·.vals) := opt_vals (fun r e => (h.t r e).1) fun r e => (h.w r e).1
theorem Tri.eqMW {x : Side} {i n : Nat} (h : Tri x i n) : x.mine = x.was ↔ x.mine.map (·.vals) = x.was.map (·.vals) := opt_vals (fun r e => (h.m r e).1) fun r e => (h.w r e).1
theorem Tri.eqTM {x : Side} {i n : Nat} (h : Tri x i n) : x.theirs = x.mine ↔ x.theirs.map (·.vals) = x.mine.map (·.vals) := opt_vals (fun r e => (h.t r e).1) fun r e => (h.m r e).1
/-- the clashes of a row, past the first test -/
def rowClash2 (byRow : Bool) (z : Nat × Nat) (x : Side) : List Clash := match x.was, x.theirs, x.mine with
  | some _, none, some _ => [{ kind := 1, table := z.1, id := z.2, column := 0 }]
  | some _, some _, none => [{ kind := 2, table := z.1, id := z.2, column := 0 }]
  | some w, some a, some b => if byRow then [{ kind := 4, table := z.1, id := z.2, column := 0 }] else (fieldsApart w.vals a.vals b.vals).map fun c => { kind := 0, table := z.1, id := z.2, column := c }
  | none, some a, some b => if byRow then [{ kind := 4, table := z.1, id := z.2, column := 0 }] else (unlikeFields a.vals b.vals).map fun c => { kind := 3, table := z.1, id := z.2, column := c }
  | _, _, _ => []
theorem rowClash_eq (byRow : Bool) (z : Nat × Nat) (x : Side) : rowClash byRow z x = if x.theirs = x.was ∨ x.mine = x.was ∨ x.theirs = x.mine then [] else rowClash2 byRow z x := rfl
theorem row_spec {x : Side} {t i n : Nat} (h : Tri x i n) (byRow : Bool) : (rowClash byRow (t, i) x).map (clashRow x) = (rclM (x.was.map (·.vals)) (x.theirs.map (·.vals)) (x.mine.map (·.vals)) (!byRow)).map (row7 t i) := by
  rw [rowClash_eq]
  unfold rclM
  by_cases c : x.theirs = x.was ∨ x.mine = x.was ∨ x.theirs = x.mine
  · rw [if_pos c, if_pos (by rw [← h.eqTW, ← h.eqMW, ← h.eqTM]; exact c)]; rfl
  rw [if_neg c, if_neg (by rw [← h.eqTW, ← h.eqMW, ← h.eqTM]; exact c)]
  obtain ⟨w, a, b⟩ := x
  have hw := h.w
  have ht := h.t
  have hm := h.m
  cases a with
  | none =>
    cases b with
    | none => exact absurd (.inr (.inr rfl)) c
    | some b =>
      cases w with
      | none => exact absurd (.inl rfl) c
      | some w => rfl
  | some a =>
    cases b with
    | none =>
      cases w with
      | none => exact absurd (.inr (.inl rfl)) c
      | some w => rfl
    | some b =>
      have la := (ht a rfl).2
      have lb := (hm b rfl).2
      cases byRow with
      | true => cases w <;> rfl
      | false =>
        cases w with
        | none =>
          show ((unlikeFields a.vals b.vals).map fun c => ({ kind := 3, table := t, id := i, column := c } : Clash)).map _ = (addM a.vals b.vals a.vals.length).map _
          rw [unlike_eq (by omega)]
          unfold addM
          rw [List.map_map, List.map_map]; rfl
        | some w =>
          have lw := (hw w rfl).2
          show ((fieldsApart w.vals a.vals b.vals).map fun c => ({ kind := 0, table := t, id := i, column := c } : Clash)).map _ = (altM w.vals a.vals b.vals w.vals.length).map _
          rw [apart_eq (by omega) (by omega)]
          unfold altM
          rw [List.map_map, List.map_map]; rfl
end Tw
namespace Tw
open VauowBase (findRow Db tableAt rowAt Schema)
open Vauowd (idsOf insertNum placesOf Side sideAt Clash rowClash clashesOf fieldsApart unlikeFields isMine mergeRow mergedBy mergeField choicesOf Choices changesOf kindOf clashRow valueOf toInts)
theorem places3 (s : Schema) (b st o : Db) : placesOf s [b, st, o] = (List.range s.length).flatMap fun t => (idsOf (tableAt o t) (idsOf (tableAt st t) (idsOf (tableAt b t) []))).map fun i => (t, i) := rfl
theorem clash_in {byRow : Bool} {z : Nat × Nat} {x : Side} {c : Clash} (h : c ∈ rowClash byRow z x) : c.table = z.1 ∧ c.id = z.2 := by
  rw [rowClash_eq] at h
  split at h
  · cases h
  obtain ⟨w, a, b⟩ := x
  have go : ∀ {l : List Nat} {k : Nat}, c ∈ l.map (fun n => ({ kind := k, table := z.1, id := z.2, column := n } : Clash)) → c.table = z.1 ∧ c.id = z.2 := fun h => by
    obtain ⟨n, _, rfl⟩ := List.mem_map.mp h
    exact ⟨rfl, rfl⟩
  have one : ∀ {k : Nat}, c ∈ [({ kind := k, table := z.1, id := z.2, column := 0 } : Clash)] → c.table = z.1 ∧ c.id = z.2 := fun h => by
    rw [List.mem_singleton.mp h]; exact ⟨rfl, rfl⟩
  cases w <;> cases a <;> cases b <;> cases byRow <;> first | (cases h; done) | exact one h | exact go h
def gC (b st o : Db) (c : Clash) : List Int := clashRow (sideAt b st o (c.table, c.id)) c
theorem row_g {byRow : Bool} {b st o : Db} (z : Nat × Nat) : (rowClash byRow z (sideAt b st o z)).map (gC b st o) = (rowClash byRow z (sideAt b st o z)).map (clashRow (sideAt b st o z)) := by
  refine List.map_congr_left fun c hc => ?_
  obtain ⟨h1, h2⟩ := clash_in hc
  unfold gC
  rw [h1, h2]
theorem fc_spec {s : Schema} {b st o : Db} (db : DO s b) (ds : DO s st) (do_ : DO s o) (byRow : Bool) : fcM (!byRow) b st o s.length = (clashesOf s byRow b st o).map (gC b st o) := by
  unfold clashesOf fcM fcT
  rw [places3, List.flatMap_assoc, map_flat]
  have go : ∀ l : List Nat, (∀ t ∈ l, t < s.length) → l.flatMap (fun t => (ids2 (tableAt st t) (tableAt o t)).flatMap (fc1 (!byRow) t (tableAt b t) (tableAt st t) (tableAt o t))) =
      l.flatMap fun t => (((idsOf (tableAt o t) (idsOf (tableAt st t) (idsOf (tableAt b t) []))).map fun i => (t, i)).flatMap fun z => rowClash byRow z (sideAt b st o z)).map (gC b st o) := by
    intro l hl
    induction l with
    | nil => rfl
    | cons t l ih =>
      rw [List.flatMap_cons, List.flatMap_cons, ih fun x hx => hl x (by simp [hx])]
      congr 1
      obtain ⟨tb, h1, t1⟩ := at_do db (hl t (by simp))
      obtain ⟨tb2, h2, t2⟩ := at_do ds (hl t (by simp))
      obtain ⟨tb3, h3, t3⟩ := at_do do_ (hl t (by simp))
      rw [h1] at h2 h3
      obtain rfl := Option.some.inj h2
      obtain rfl := Option.some.inj h3
      have e1 : ∀ i, fc1 (!byRow) t (tableAt b t) (tableAt st t) (tableAt o t) i = (rowClash byRow (t, i) (sideAt b st o (t, i))).map (gC b st o) := fun i => by
        rw [row_g, row_spec (tri_at t1 t2 t3) byRow]; rfl
      rw [← ids_cut (tableAt b t), flat_cut, map_flat, List.flatMap_map]
      · exact congrArg (fun f => (idsOf (tableAt o t) (idsOf (tableAt st t) (idsOf (tableAt b t) []))).flatMap f) (funext e1)
      · intro x _ hx
        have hx := of_decide_eq_false hx
        rw [ids2_mem] at hx
        have n1 : vo (tableAt st t) x = none := by unfold vo; rw [find_none fun z => hx (.inl z)]; rfl
        have n2 : vo (tableAt o t) x = none := by unfold vo; rw [find_none fun z => hx (.inr z)]; rfl
        unfold fc1 rclM
        rw [n1, n2, if_pos (.inr (.inr rfl))]; rfl
  exact go _ fun t ht => List.mem_range.mp ht
/-! ### each clash at a place of its own -/
theorem clash_mem {s : Schema} {b st o : Db} {byRow : Bool} {c : Clash} (h : c ∈ clashesOf s byRow b st o) : c ∈ rowClash byRow (c.table, c.id) (sideAt b st o (c.table, c.id)) ∧ c.table < s.length := by
  unfold clashesOf at h
  obtain ⟨z, hz, hc⟩ := List.mem_flatMap.mp h
  obtain ⟨h1, h2⟩ := clash_in hc
  rw [places3] at hz
  obtain ⟨t, ht, hz⟩ := List.mem_flatMap.mp hz
  obtain ⟨i, hi, rfl⟩ := List.mem_map.mp hz
  rw [h1, h2]
  exact ⟨hc, List.mem_range.mp ht⟩
theorem mem_clash {s : Schema} {b st o : Db} {byRow : Bool} {c : Clash} {t i : Nat} (ht : t < s.length) (h : c ∈ rowClash byRow (t, i) (sideAt b st o (t, i))) : c ∈ clashesOf s byRow b st o := by
  unfold clashesOf
  refine List.mem_flatMap.mpr ⟨(t, i), ?_, h⟩
  rw [places3]
  refine List.mem_flatMap.mpr ⟨t, List.mem_range.mpr ht, List.mem_map.mpr ⟨i, ?_, rfl⟩⟩
  by_cases hi : i ∈ idsOf (tableAt o t) (idsOf (tableAt st t) (idsOf (tableAt b t) []))
  · exact hi
  exfalso
  rw [ids_three] at hi
  have n1 : findRow (tableAt st t) i = none := find_none fun z => hi (.inr (.inl z))
  have n2 : findRow (tableAt o t) i = none := find_none fun z => hi (.inr (.inr z))
  rw [rowClash_eq, if_pos (.inr (.inr (by show findRow (tableAt st t) i = findRow (tableAt o t) i; rw [n1, n2])))] at h
  cases h
def apartC (a b : Clash) : Prop := ¬ (a.table = b.table ∧ a.id = b.id ∧ a.column = b.column)
theorem row_apart (byRow : Bool) (z : Nat × Nat) (x : Side) : (rowClash byRow z x).Pairwise apartC := by
  rw [rowClash_eq]
  split
  · exact List.Pairwise.nil
  have one : ∀ k : Nat, [({ kind := k, table := z.1, id := z.2, column := 0 } : Clash)].Pairwise apartC := fun k => List.pairwise_singleton _ _
  have go : ∀ (l : List Nat) (k : Nat), l.Nodup → (l.map fun n => ({ kind := k, table := z.1, id := z.2, column := n } : Clash)).Pairwise apartC := fun l k h => by
    rw [List.pairwise_map]
    exact h.imp fun h z => h z.2.2
  have f1 : ∀ w a b : List Int, (fieldsApart w a b).Nodup := fun w a b => List.nodup_range.filter _
  have f2 : ∀ a b : List Int, (unlikeFields a b).Nodup := fun a b => List.nodup_range.filter _
  obtain ⟨w, a, b⟩ := x
  cases w <;> cases a <;> cases b <;> cases byRow <;> first | exact List.Pairwise.nil | exact one _ | exact go _ _ (f1 _ _ _) | exact go _ _ (f2 _ _)
theorem places_nodup (s : Schema) (b st o : Db) : (placesOf s [b, st, o]).Pairwise (· ≠ ·) := by
  rw [places3, List.pairwise_flatMap]
  refine ⟨fun t _ => ?_, List.nodup_range.imp fun h x hx y hy e => ?_⟩
  · rw [List.pairwise_map]
    exact (ris_nodup (ids_three_ris _ _ _)).imp fun h z => h (by injection z)
  · obtain ⟨i, _, rfl⟩ := List.mem_map.mp hx
    obtain ⟨j, _, rfl⟩ := List.mem_map.mp hy
    injection e with e _
    exact h e
theorem clashes_apart (s : Schema) (b st o : Db) (byRow : Bool) : (clashesOf s byRow b st o).Pairwise apartC := by
  unfold clashesOf
  rw [List.pairwise_flatMap]
  refine ⟨fun z _ => row_apart byRow z _, (places_nodup s b st o).imp fun {z z'} h x hx y hy e => ?_⟩
  obtain ⟨h1, h2⟩ := clash_in hx
  obtain ⟨h3, h4⟩ := clash_in hy
  exact h (Prod.ext (by rw [← h1, ← h3]; exact e.1) (by rw [← h2, ← h4]; exact e.2.1))
end Tw
namespace Tw
open VauowBase (findRow Db tableAt rowAt Schema)
open Vauowd (idsOf insertNum placesOf Side sideAt Clash rowClash clashesOf fieldsApart unlikeFields isMine mergeRow mergedBy mergeField choicesOf Choices changesOf kindOf clashRow valueOf toInts)
/-! ### a row merged -/
def mkRow (i : Nat) (v : List Int) : VauowBase.Row := { id := i, vals := v }
theorem mk_vals {o : Option VauowBase.Row} {i : Nat} (h : ∀ r, o = some r → r.id = i) : (o.map (·.vals)).map (mkRow i) = o := by
  cases o with
  | none => rfl
  | some r =>
    have := h r rfl
    cases r
    cases this
    rfl
theorem mf_ext {n : Nat} {f : Nat → Int} {a : List Int} (h : a.length = n) (hf : ∀ c, c < n → f c = a.getD c 0) : (List.range n).map f = a := by
  refine List.ext_getElem (by simp [h]) fun c h1 h2 => ?_
  rw [List.getElem_map, List.getElem_range, hf c (by simpa using h1), List.getD_eq_getElem?_getD, List.getElem?_eq_getElem h2]; rfl
theorem eq_get {a b : List Int} {c n : Nat} (ha : a.length = n) (hb : b.length = n) (hc : c < n) : (a[c]? == b[c]?) = decide (a.getD c 0 = b.getD c 0) := by
  have := getD_ne (a := a) (b := b) (c := c) (by omega) (by omega)
  rw [Bool.eq_iff_iff] at this
  rw [Bool.eq_iff_iff, beq_iff_eq, decide_eq_true_eq]
  rw [bne_iff_ne, decide_eq_true_eq] at this
  constructor
  · intro h
    by_cases e : a.getD c 0 = b.getD c 0
    · exact e
    · exact absurd h (this.mpr e)
  · intro h
    by_cases e : a[c]? = b[c]?
    · exact e
    · exact absurd h (this.mp e)
theorem merge_row {x : Side} {t i n : Nat} (h : Tri x i n) (byRow : Bool) (l : Choices) (m : Int → Option Int)
    (H1 : ∀ z ∈ rowClash byRow (t, i) x, (m (z.column : Int) = some 1 ↔ isMine l z = true)) (H2 : ∀ c : Nat, (∀ z ∈ rowClash byRow (t, i) x, z.column ≠ c) → m (c : Int) = none) :
    (mrM (x.was.map (·.vals)) (x.theirs.map (·.vals)) (x.mine.map (·.vals)) (!byRow) m).map (mkRow i) = mergeRow byRow l (t, i) x := by
  have hw := h.w
  have ht := h.t
  have hm := h.m
  have eT := mk_vals (i := i) (fun r e => (ht r e).1)
  have eM := mk_vals (i := i) (fun r e => (hm r e).1)
  rw [rowClash_eq] at H1 H2
  unfold mergeRow
  -- no fields
  have whole : (x.mine = x.was ∨ x.theirs = x.was ∨ x.theirs = x.mine → m 0 = none) → (mo (x.was.map (·.vals)) (x.theirs.map (·.vals)) (x.mine.map (·.vals)) (m 0)).map (mkRow i) = if x.mine = x.was then x.theirs else if x.theirs = x.was then x.mine else if x.theirs = x.mine then x.mine else if m 0 = some 1 then x.mine else x.theirs := fun g => by
    unfold mo
    have k1 := h.eqTW
    by_cases c1 : x.mine = x.was
    · rw [if_pos c1]
      have g := g (.inl c1)
      by_cases c2 : x.theirs = x.was
      · rw [if_pos (.inl (k1.mp c2)), eM, c1, c2]
      · rw [if_neg (fun z => z.elim (fun z => c2 (k1.mpr z)) fun z => by rw [g] at z; cases z), eT]
    rw [if_neg c1]
    by_cases c2 : x.theirs = x.was
    · rw [if_pos c2, if_pos (.inl (k1.mp c2)), eM]
    rw [if_neg c2]
    by_cases c3 : x.theirs = x.mine
    · have g := g (.inr (.inr c3))
      rw [if_pos c3, if_neg (fun z => z.elim (fun z => c2 (k1.mpr z)) fun z => by rw [g] at z; cases z), eT, c3]
    rw [if_neg c3]
    by_cases c4 : m 0 = some 1
    · rw [if_pos c4, if_pos (.inr c4), eM]
    · rw [if_neg c4, if_neg (fun z => z.elim (fun z => c2 (k1.mpr z)) c4), eT]
  have noC : (x.mine = x.was ∨ x.theirs = x.was ∨ x.theirs = x.mine) → ∀ c : Nat, m (c : Int) = none := fun g c => by
    refine H2 c fun z hz => ?_
    rw [if_pos (by rcases g with g | g | g
                   · exact .inr (.inl g)
                   · exact .inl g
                   · exact .inr (.inr g))] at hz
    cases hz
  have oneC : ∀ k : Nat, ¬ (x.theirs = x.was ∨ x.mine = x.was ∨ x.theirs = x.mine) → rowClash2 byRow (t, i) x = [{ kind := k, table := t, id := i, column := 0 }] → (m 0 = some 1 ↔ isMine l { kind := k, table := t, id := i, column := 0 } = true) := fun k g e => by
    rw [if_neg g, e] at H1
    exact H1 _ (List.mem_singleton.mpr rfl)
  by_cases both : byRow = false ∧ x.theirs ≠ none ∧ x.mine ≠ none
  · obtain ⟨rfl, g1, g2⟩ := both
    obtain ⟨w, a', b'⟩ := x
    obtain ⟨a, rfl⟩ : ∃ a, a' = some a := by
      cases a' with
      | none => exact absurd rfl g1
      | some a => exact ⟨a, rfl⟩
    obtain ⟨b, rfl⟩ : ∃ b, b' = some b := by
      cases b' with
      | none => exact absurd rfl g2
      | some b => exact ⟨b, rfl⟩
    obtain ⟨ia, la⟩ := ht a rfl
    obtain ⟨ib, lb⟩ := hm b rfl
    show some (mkRow i (mfM (w.map (·.vals)) a.vals b.vals m a.vals.length)) = _
    dsimp only at noC H1 H2 ⊢
    have mkA : ∀ v, v = a.vals → mkRow i v = a := fun v e => by rw [e]; cases a; cases ia; rfl
    have mkB : ∀ v, v = b.vals → mkRow i v = b := fun v e => by rw [e]; cases b; cases ib; rfl
    by_cases c1 : some b = w
    · rw [if_pos c1]
      have n0 := noC (.inl c1)
      congr 1
      refine mkA _ ?_
      unfold mfM
      refine mf_ext rfl fun c hc => ?_
      rw [← c1, n0 c]
      unfold mo1
      split
      · rename_i z
        rcases z with z | z
        · have z : some (b.vals.getD c 0) = some (a.vals.getD c 0) := z
          exact Option.some.inj z
        · cases z
      · rfl
    rw [if_neg c1]
    by_cases c2 : some a = w
    · rw [if_pos c2]
      congr 1
      refine mkB _ ?_
      unfold mfM
      refine mf_ext (by omega) fun c hc => ?_
      rw [← c2]
      unfold mo1
      exact if_pos (.inl rfl)
    rw [if_neg c2]
    by_cases c3 : some a = some b
    · rw [if_pos c3]
      have n0 := noC (.inr (.inr c3))
      congr 1
      refine mkB _ ?_
      obtain rfl := Option.some.inj c3
      unfold mfM
      refine mf_ext rfl fun c hc => ?_
      unfold mo1
      split <;> rfl
    rw [if_neg c3]
    have hno : ¬ (some a = w ∨ some b = w ∨ some a = some b) := fun z => by
      rcases z with z | z | z
      · exact c2 z
      · exact c1 z
      · exact c3 z
    rw [if_neg hno] at H1 H2
    cases w with
    | none =>
      have hc0 : ∀ c, c ∈ unlikeFields a.vals b.vals → (m (c : Int) = some 1 ↔ isMine l { kind := 3, table := t, id := i, column := c } = true) := fun c hc => H1 { kind := 3, table := t, id := i, column := c } (List.mem_map.mpr ⟨c, hc, rfl⟩)
      have hc1 : ∀ c, c ∉ unlikeFields a.vals b.vals → m (c : Int) = none := fun c hc => H2 c fun z hz e => by
        obtain ⟨k, hk, rfl⟩ := List.mem_map.mp hz
        exact hc (by rw [← e]; exact hk)
      show some (mkRow i _) = some ({ a with vals := (List.range a.vals.length).map fun c => if isMine l { kind := 3, table := t, id := i, column := c } then b.vals.getD c 0 else a.vals.getD c 0 } : VauowBase.Row)
      congr 1
      unfold mkRow mfM
      congr 1
      · exact ia.symm
      refine List.map_congr_left fun c hc => ?_
      have hcl := List.mem_range.mp hc
      unfold mo1
      by_cases hu : c ∈ unlikeFields a.vals b.vals
      · have := hc0 c hu
        by_cases hm1 : m (c : Int) = some 1
        · rw [if_pos (.inr hm1), if_pos (this.mp hm1)]
        · rw [if_neg (fun z => z.elim (fun z => nomatch z) hm1), if_neg (fun z => hm1 (this.mpr z))]
      · have hn := hc1 c hu
        have he : a.vals.getD c 0 = b.vals.getD c 0 := by
          rw [unlike_eq (by omega), List.mem_filter] at hu
          by_cases e : a.vals.getD c 0 = b.vals.getD c 0
          · exact e
          · exact absurd ⟨hc, bne_iff_ne.mpr e⟩ hu
        rw [if_neg (fun z => z.elim (fun z => nomatch z) fun z => by rw [hn] at z; cases z), he]
        split <;> rfl
    | some w =>
      obtain ⟨iw, lw⟩ := hw w rfl
      have hc0 : ∀ c, c ∈ fieldsApart w.vals a.vals b.vals → (m (c : Int) = some 1 ↔ isMine l { kind := 0, table := t, id := i, column := c } = true) := fun c hc => H1 { kind := 0, table := t, id := i, column := c } (List.mem_map.mpr ⟨c, hc, rfl⟩)
      have hc1 : ∀ c, c ∉ fieldsApart w.vals a.vals b.vals → m (c : Int) = none := fun c hc => H2 c fun z hz e => by
        obtain ⟨k, hk, rfl⟩ := List.mem_map.mp hz
        exact hc (by rw [← e]; exact hk)
      show some (mkRow i _) = some ({ a with vals := (List.range a.vals.length).map (mergeField 0 l (t, i) w.vals a.vals b.vals) } : VauowBase.Row)
      congr 1
      unfold mkRow mfM
      congr 1
      · exact ia.symm
      refine List.map_congr_left fun c hc => ?_
      have hcl := List.mem_range.mp hc
      unfold mo1 mergeField
      rw [eq_get (n := n) lb lw (by omega), eq_get (n := n) la lw (by omega), eq_get (n := n) la lb (by omega)]
      have hmem : c ∈ fieldsApart w.vals a.vals b.vals ↔ altB w.vals a.vals b.vals c = true := by
        rw [apart_eq (by omega) (by omega), List.mem_filter]
        exact ⟨fun z => z.2, fun z => ⟨List.mem_range.mpr (by omega), z⟩⟩
      show (if some (w.vals.getD c 0) = some (a.vals.getD c 0) ∨ m (c : Int) = some 1 then b.vals.getD c 0 else a.vals.getD c 0) = _
      by_cases d1 : b.vals.getD c 0 = w.vals.getD c 0
      · rw [if_pos (decide_eq_true d1)]
        have hn := hc1 c fun z => by
          have := of_decide_eq_true (hmem.mp z)
          exact this.2.2 d1.symm
        split
        · rename_i z
          rcases z with z | z
          · rw [d1]; exact Option.some.inj z
          · rw [hn] at z; cases z
        · rfl
      rw [if_neg (fun z => d1 (of_decide_eq_true z))]
      by_cases d2 : a.vals.getD c 0 = w.vals.getD c 0
      · rw [if_pos (decide_eq_true d2), if_pos (.inl (by rw [d2]))]
      rw [if_neg (fun z => d2 (of_decide_eq_true z))]
      by_cases d3 : a.vals.getD c 0 = b.vals.getD c 0
      · rw [if_pos (decide_eq_true d3), d3]
        split <;> rfl
      rw [if_neg (fun z => d3 (of_decide_eq_true z))]
      have := hc0 c (hmem.mpr (decide_eq_true ⟨Ne.symm d2, d3, Ne.symm d1⟩))
      by_cases hm1 : m (c : Int) = some 1
      · rw [if_pos (.inr hm1), if_pos (this.mp hm1)]
      · rw [if_neg (fun z => z.elim (fun z => d2 (Option.some.inj z).symm) hm1), if_neg (fun z => hm1 (this.mpr z))]
  · have e0 : mrM (x.was.map (·.vals)) (x.theirs.map (·.vals)) (x.mine.map (·.vals)) (!byRow) m = mo (x.was.map (·.vals)) (x.theirs.map (·.vals)) (x.mine.map (·.vals)) (m 0) := by
      obtain ⟨w, a, b⟩ := x
      cases byRow with
      | true => rfl
      | false =>
        cases a with
        | none => rfl
        | some a =>
          cases b with
          | none => rfl
          | some b => exact absurd ⟨rfl, fun z => (nomatch z), fun z => nomatch z⟩ both
    rw [e0, whole fun g => noC g 0]
    by_cases c1 : x.mine = x.was
    · rw [if_pos c1, if_pos c1]
    rw [if_neg c1, if_neg c1]
    by_cases c2 : x.theirs = x.was
    · rw [if_pos c2, if_pos c2]
    rw [if_neg c2, if_neg c2]
    by_cases c3 : x.theirs = x.mine
    · rw [if_pos c3, if_pos c3]
    rw [if_neg c3, if_neg c3]
    have hno : ¬ (x.theirs = x.was ∨ x.mine = x.was ∨ x.theirs = x.mine) := fun z => by
      rcases z with z | z | z
      · exact c2 z
      · exact c1 z
      · exact c3 z
    have oneC := fun k => oneC k hno
    obtain ⟨w, a, b⟩ := x
    have fin : ∀ {k : Nat} {u v : Option VauowBase.Row}, (m 0 = some 1 ↔ isMine l { kind := k, table := t, id := i, column := 0 } = true) → (if m 0 = some 1 then u else v) = if isMine l { kind := k, table := t, id := i, column := 0 } = true then u else v := fun {k u v} g => by
      by_cases e : m 0 = some 1
      · rw [if_pos e, if_pos (g.mp e)]
      · rw [if_neg e, if_neg (fun z => e (g.mpr z))]
    cases a with
    | none =>
      cases b with
      | none => exact absurd rfl c3
      | some b =>
        cases w with
        | none => exact absurd rfl c2
        | some w => exact fin (oneC 1 rfl)
    | some a =>
      cases b with
      | none =>
        cases w with
        | none => exact absurd rfl c1
        | some w => exact fin (oneC 2 rfl)
      | some b =>
        cases byRow with
        | false => exact absurd ⟨rfl, fun z => (nomatch z), fun z => nomatch z⟩ both
        | true =>
          cases w with
          | none => exact fin (oneC 4 rfl)
          | some w => exact fin (oneC 4 rfl)
end Tw
namespace Tw
open VauowBase (findRow Db tableAt rowAt Schema)
open Vauowd (idsOf insertNum placesOf Side sideAt Clash rowClash clashesOf fieldsApart unlikeFields isMine mergeRow mergedBy mergeField choicesOf Choices changesOf kindOf clashRow valueOf toInts)
/-! ### choices, looked up -/
def posM (p : List Int × Int) (t i c : Int) : Prop := t = p.1.getD 1 0 ∧ i = p.1.getD 2 0 ∧ c = p.1.getD 3 0
instance (p : List Int × Int) (t i c : Int) : Decidable (posM p t i c) := by unfold posM; infer_instance
theorem chOf_go (t i c : Int) : ∀ (l : List (List Int × Int)) (ch : Ch3), ((∀ p ∈ l, ¬ posM p t i c) ∧ l.foldl (fun ch p => chAdd ch p.1 p.2) ch t i c = ch t i c) ∨ ∃ p ∈ l, posM p t i c ∧ l.foldl (fun ch p => chAdd ch p.1 p.2) ch t i c = some p.2
  | [], ch => .inl ⟨by simp, rfl⟩
  | p :: l, ch => by
    rw [List.foldl_cons]
    rcases chOf_go t i c l (chAdd ch p.1 p.2) with ⟨h1, h2⟩ | ⟨q, hq, h1, h2⟩
    · rw [h2]
      by_cases e : posM p t i c
      · exact .inr ⟨p, by simp, e, if_pos e⟩
      · refine .inl ⟨fun q hq => ?_, if_neg e⟩
        rcases List.mem_cons.mp hq with rfl | hq
        · exact e
        · exact h1 q hq
    · exact .inr ⟨q, by simp [hq], h1, h2⟩
theorem chOf_cases (l : List (List Int × Int)) (t i c : Int) : ((∀ p ∈ l, ¬ posM p t i c) ∧ chOf l t i c = none) ∨ ∃ p ∈ l, posM p t i c ∧ chOf l t i c = some p.2 := chOf_go t i c l _
theorem apart_same : ∀ {l : List Clash} {i j : Nat} {x y : Clash}, l.Pairwise apartC → l[i]? = some x → l[j]? = some y → ¬ apartC x y → ¬ apartC y x → i = j := by
  intro l i j x y h hi hj h1 h2
  obtain ⟨a1, rfl⟩ := List.getElem?_eq_some_iff.mp hi
  obtain ⟨a2, rfl⟩ := List.getElem?_eq_some_iff.mp hj
  rcases Nat.lt_trichotomy i j with c | c | c
  · exact absurd (List.pairwise_iff_getElem.mp h i j a1 a2 c) h1
  · exact c
  · exact absurd (List.pairwise_iff_getElem.mp h j i a2 a1 c) h2
section
variable {s : Schema} {b st o : Db} {byRow : Bool} {ys : List Int}
theorem zip_mem {p : List Int × Int} (h : p ∈ ((clashesOf s byRow b st o).map (gC b st o)).zip ys) : ∃ (k : Nat) (z : Clash) (y : Int), (clashesOf s byRow b st o)[k]? = some z ∧ ys[k]? = some y ∧ p = (gC b st o z, y) := by
  obtain ⟨k, hk⟩ := List.mem_iff_getElem?.mp h
  obtain ⟨x, y⟩ := p
  rw [List.getElem?_zip_eq_some] at hk
  obtain ⟨z, hz, e⟩ := map_get hk.1
  have e : x = gC b st o z := e
  exact ⟨k, z, y, hz, hk.2, by rw [e]⟩
theorem posM_g {z : Clash} {y : Int} {t i c : Nat} : posM (gC b st o z, y) t i c ↔ z.table = t ∧ z.id = i ∧ z.column = c := by
  have e : posM (gC b st o z, y) t i c ↔ ((t : Int) = (z.table : Int) ∧ (i : Int) = (z.id : Int) ∧ (c : Int) = (z.column : Int)) := Iff.rfl
  rw [e]
  omega
theorem look_none {t i c : Nat} (h : ∀ z ∈ rowClash byRow (t, i) (sideAt b st o (t, i)), z.column ≠ c) : chOf (((clashesOf s byRow b st o).map (gC b st o)).zip ys) t i c = none := by
  rcases chOf_cases (((clashesOf s byRow b st o).map (gC b st o)).zip ys) t i c with ⟨_, e⟩ | ⟨p, hp, hm, _⟩
  · exact e
  · obtain ⟨k, z, y, hz, _, rfl⟩ := zip_mem hp
    obtain ⟨rfl, rfl, rfl⟩ := posM_g.mp hm
    exact absurd rfl (h z (clash_mem (List.mem_of_getElem? hz)).1)
theorem look_mine (hy : ∀ y ∈ ys, y = 0 ∨ y = 1) (hl : ys.length = (clashesOf s byRow b st o).length) {z : Clash} (hz : z ∈ clashesOf s byRow b st o) :
    chOf (((clashesOf s byRow b st o).map (gC b st o)).zip ys) z.table z.id z.column = some 1 ↔ isMine (choicesOf (clashesOf s byRow b st o) (ys.map Int.toNat)) z = true := by
  have hap := clashes_apart s b st o byRow
  generalize hcl : clashesOf s byRow b st o = cl at hz hl hap ⊢
  have zm : ∀ {p : List Int × Int}, p ∈ (cl.map (gC b st o)).zip ys → ∃ (k : Nat) (z : Clash) (y : Int), cl[k]? = some z ∧ ys[k]? = some y ∧ p = (gC b st o z, y) := fun h => by
    rw [← hcl] at h ⊢
    exact zip_mem h
  unfold isMine choicesOf
  rw [List.any_map, List.any_eq_true]
  constructor
  · intro h
    rcases chOf_cases ((cl.map (gC b st o)).zip ys) z.table z.id z.column with ⟨_, e⟩ | ⟨p, hp, hm, e⟩
    · rw [e] at h; cases h
    · rw [e] at h
      have hp1 : p.2 = 1 := Option.some.inj h
      obtain ⟨k, z', y, hk, hky, rfl⟩ := zm hp
      have hp1 : y = 1 := hp1
      subst hp1
      obtain ⟨e1, e2, e3⟩ := posM_g.mp hm
      obtain ⟨j, hj⟩ := List.mem_iff_getElem?.mp hz
      have : k = j := apart_same hap hk hj (fun g => g ⟨e1, e2, e3⟩) (fun g => g ⟨e1.symm, e2.symm, e3.symm⟩)
      subst this
      rw [hk] at hj
      obtain rfl := Option.some.inj hj
      refine ⟨(z', 1), ?_, by show (z' == z' && (1 == 1)) = true; simp⟩
      exact List.mem_iff_getElem?.mpr ⟨k, zip_at hk (by rw [List.getElem?_map, hky]; rfl)⟩
  · rintro ⟨⟨z', y⟩, hm, h⟩
    have h : (z' == z && (y == 1)) = true := h
    rw [Bool.and_eq_true, beq_iff_eq, beq_iff_eq] at h
    obtain ⟨rfl, rfl⟩ := h
    obtain ⟨k, hk⟩ := List.mem_iff_getElem?.mp hm
    rw [List.getElem?_zip_eq_some] at hk
    obtain ⟨y, hyk, ey⟩ := map_get hk.2
    have hy1 : y = 1 := by
      rcases hy y (List.mem_of_getElem? hyk) with e | e
      · rw [e] at ey; cases ey
      · exact e
    rcases chOf_cases ((cl.map (gC b st o)).zip ys) z'.table z'.id z'.column with ⟨hn, _⟩ | ⟨p, hp, hm', e⟩
    · exact absurd (posM_g.mpr ⟨rfl, rfl, rfl⟩) (hn (gC b st o z', y) (List.mem_iff_getElem?.mpr ⟨k, zip_at (by rw [List.getElem?_map, hk.1]; rfl) hyk⟩))
    · rw [e]
      obtain ⟨j, z2, y2, hj, hjy, rfl⟩ := zm hp
      obtain ⟨e1, e2, e3⟩ := posM_g.mp hm'
      have : j = k := apart_same hap hj hk.1 (fun g => g ⟨e1, e2, e3⟩) (fun g => g ⟨e1.symm, e2.symm, e3.symm⟩)
      subst this
      rw [hyk] at hjy
      rw [← Option.some.inj hjy, hy1]
/-! ### all merged -/
theorem pick_range {β : Type} (f : Nat → List β) (t : Nat) : ∀ n, t < n → (List.range n).flatMap (fun t' => if t' = t then f t' else []) = f t
  | 0, h => by omega
  | n + 1, h => by
    rw [List.range_succ, List.flatMap_append, List.flatMap_singleton]
    by_cases e : t = n
    · subst e
      rw [if_pos rfl]
      have : (List.range t).flatMap (fun t' => if t' = t then f t' else []) = [] := flat_nil fun x hx => if_neg (by have := List.mem_range.mp hx; omega)
      rw [this, List.nil_append]
    · rw [if_neg (Ne.symm e), List.append_nil, pick_range f t n (by omega)]
theorem places_of {t : Nat} (ht : t < s.length) : (placesOf s [b, st, o]).filter (fun z => z.1 == t) = (idsOf (tableAt o t) (idsOf (tableAt st t) (idsOf (tableAt b t) []))).map fun i => (t, i) := by
  rw [places3, filter_flat]
  have : (fun t' => ((idsOf (tableAt o t') (idsOf (tableAt st t') (idsOf (tableAt b t') []))).map fun i => (t', i)).filter (fun z => z.1 == t)) = fun t' => if t' = t then (idsOf (tableAt o t') (idsOf (tableAt st t') (idsOf (tableAt b t') []))).map (fun i => (t', i)) else [] := by
    funext t'
    by_cases e : t' = t
    · rw [if_pos e, List.filter_eq_self.mpr]
      intro z hz
      obtain ⟨i, _, rfl⟩ := List.mem_map.mp hz
      exact beq_iff_eq.mpr e
    · rw [if_neg e, List.filter_eq_nil_iff.mpr]
      intro z hz
      obtain ⟨i, _, rfl⟩ := List.mem_map.mp hz
      exact fun q => e (beq_iff_eq.mp q)
  rw [this]
  exact pick_range _ t _ ht
theorem merged_spec (db : DO s b) (ds : DO s st) (do_ : DO s o) (hy : ∀ y ∈ ys, y = 0 ∨ y = 1) (hl : ys.length = (clashesOf s byRow b st o).length) :
    mtM (!byRow) b st o (chOf (((clashesOf s byRow b st o).map (gC b st o)).zip ys)) s.length = mergedBy s byRow (choicesOf (clashesOf s byRow b st o) (ys.map Int.toNat)) b st o := by
  unfold mtM mergedBy
  refine List.map_congr_left fun t ht => ?_
  have ht := List.mem_range.mp ht
  obtain ⟨tb, h1, t1⟩ := at_do db ht
  obtain ⟨tb2, h2, t2⟩ := at_do ds ht
  obtain ⟨tb3, h3, t3⟩ := at_do do_ ht
  rw [h1] at h2 h3
  obtain rfl := Option.some.inj h2
  obtain rfl := Option.some.inj h3
  rw [places_of ht, List.filterMap_map]
  unfold mtT
  have e1 : ∀ i, mt1 (!byRow) (tableAt b t) (tableAt st t) (tableAt o t) (chOf (((clashesOf s byRow b st o).map (gC b st o)).zip ys) (t : Int)) i = mergeRow byRow (choicesOf (clashesOf s byRow b st o) (ys.map Int.toNat)) (t, i) (sideAt b st o (t, i)) := fun i =>
    merge_row (tri_at t1 t2 t3) byRow _ (chOf (((clashesOf s byRow b st o).map (gC b st o)).zip ys) (t : Int) (i : Int)) (fun z hz => by
      obtain ⟨c1, c2⟩ := clash_in hz
      have := look_mine hy hl (mem_clash ht hz)
      rw [c1, c2] at this
      exact this) fun c hc => look_none hc
  rw [← ids_cut (tableAt b t), fm_cut]
  · exact congrArg (fun f => (idsOf (tableAt o t) (idsOf (tableAt st t) (idsOf (tableAt b t) []))).filterMap f) (funext e1)
  · intro x _ hx
    have hx := of_decide_eq_false hx
    rw [ids2_mem] at hx
    have n1 : findRow (tableAt st t) x = none := find_none fun z => hx (.inl z)
    have n2 : findRow (tableAt o t) x = none := find_none fun z => hx (.inr z)
    rw [e1]
    unfold mergeRow
    show (if findRow (tableAt o t) x = findRow (tableAt b t) x then findRow (tableAt st t) x else if findRow (tableAt st t) x = findRow (tableAt b t) x then findRow (tableAt o t) x else if findRow (tableAt st t) x = findRow (tableAt o t) x then findRow (tableAt o t) x else _) = none
    rw [n1, n2]
    by_cases g : (none : Option VauowBase.Row) = findRow (tableAt b t) x
    · rw [if_pos g]
    · rw [if_neg g, if_neg g, if_pos rfl]
end
end Tw
namespace Tw
open VauowBase (findRow Db tableAt rowAt Schema isValue)
/-! ### merged tables are of the schema's form -/
theorem risF_fm {f : Nat → Option VauowBase.Row} (hf : ∀ i r, f i = some r → r.id = i) : ∀ {l : List Nat} {k : Nat}, l.Pairwise (· < ·) → (∀ x ∈ l, k < x) → risF k (l.filterMap f) = true
  | [], _, _, _ => rfl
  | i :: l, k, h, hk => by
    obtain ⟨h1, h2⟩ := List.pairwise_cons.mp h
    rw [List.filterMap_cons]
    cases e : f i with
    | none => exact risF_fm hf h2 fun x hx => hk x (by simp [hx])
    | some r =>
      have hr := hf i r e
      show (decide (k < r.id) && risF r.id (l.filterMap f)) = true
      rw [decide_eq_true (by rw [hr]; exact hk i (by simp)), hr, Bool.true_and]
      exact risF_fm hf h2 h1
def okV (n : Nat) (o : Option (List Int)) : Prop := ∀ l, o = some l → l.length = n ∧ l.all isValue = true
theorem mr_ok {b s o : Option (List Int)} {by_ : Bool} {ch : Int → Option Int} {n : Nat} (hs : okV n s) (ho : okV n o) : okV n (mrM b s o by_ ch) := by
  have whole : okV n (mo b s o (ch 0)) := by
    unfold mo
    split
    · exact ho
    · exact hs
  cases by_ with
  | false => exact whole
  | true =>
    cases s with
    | none => exact whole
    | some x =>
      cases o with
      | none => exact whole
      | some y =>
        intro l e
        have e : some (mfM b x y ch x.length) = some l := e
        obtain rfl := Option.some.inj e
        obtain ⟨l1, v1⟩ := hs x rfl
        obtain ⟨l2, v2⟩ := ho y rfl
        refine ⟨by unfold mfM; rw [List.length_map, List.length_range]; exact l1, ?_⟩
        rw [List.all_eq_true]
        intro v hv
        unfold mfM at hv
        obtain ⟨c, hc, rfl⟩ := List.mem_map.mp hv
        have hc := List.mem_range.mp hc
        have get : ∀ {z : List Int}, z.all isValue = true → c < z.length → isValue (z.getD c 0) = true := fun {z} hz hcz => by
          rw [List.getD_eq_getElem?_getD, List.getElem?_eq_getElem hcz]
          exact List.all_eq_true.mp hz _ (List.getElem_mem hcz)
        unfold mo1
        split
        · exact get v2 (by omega)
        · exact get v1 hc
theorem vo_ok {n : Nat} {rs : List VauowBase.Row} (t : TO n rs) (i : Nat) : okV n (vo rs i) := fun l h => by
  unfold vo at h
  obtain ⟨r, hr, rfl⟩ := Option.map_eq_some_iff.mp h
  have := t.rows r (find_mem hr).1
  exact ⟨this.len, this.vals⟩
theorem mt_dw {s : Schema} {b st o : Db} {by_ : Bool} {ch : Ch3} (ds : DO s st) (do_ : DO s o) : DW s (mtM by_ b st o ch s.length) := by
  refine ⟨by unfold mtM; rw [List.length_map, List.length_range], fun t rs tb h1 h2 => ?_⟩
  have ht : t < s.length := (List.getElem?_eq_some_iff.mp h2).1
  unfold mtM at h1
  obtain ⟨t', e, rfl⟩ := map_get h1
  rw [List.getElem?_range ht] at e
  obtain rfl := Option.some.inj e
  obtain ⟨tb2, g2, t2⟩ := at_do ds ht
  obtain ⟨tb3, g3, t3⟩ := at_do do_ ht
  rw [h2] at g2 g3
  obtain rfl := Option.some.inj g2
  obtain rfl := Option.some.inj g3
  have idp : ∀ x ∈ ids2 (tableAt st t) (tableAt o t), 1 ≤ x ∧ x ≤ 99 := fun x hx => by
    rcases ids2_mem.mp hx with ⟨r, hr, rfl⟩ | ⟨r, hr, rfl⟩
    · exact ⟨(t2.rows r hr).lo, (t2.rows r hr).hi⟩
    · exact ⟨(t3.rows r hr).lo, (t3.rows r hr).hi⟩
  refine ⟨?_, ?_, fun r hr => ?_⟩
  · have := List.length_filterMap_le (mt1 by_ (tableAt b t) (tableAt st t) (tableAt o t) (ch (t : Int))) (ids2 (tableAt st t) (tableAt o t))
    have := ids2_len t2.len t3.len
    unfold mtT
    omega
  · exact risF_fm (fun i r h => mt1_id h) (ids2_ris _ _) fun x hx => by have := idp x hx; omega
  · unfold mtT at hr
    obtain ⟨x, hx, hxr⟩ := List.mem_filterMap.mp hr
    have hid := mt1_id hxr
    unfold mt1 at hxr
    obtain ⟨l, hl, rfl⟩ := Option.map_eq_some_iff.mp hxr
    obtain ⟨a1, a2⟩ := mr_ok (vo_ok t2 x) (vo_ok t3 x) l hl
    exact ⟨(idp x hx).1, (idp x hx).2, a1, a2⟩
theorem DO.ris {s : Schema} {d : Db} (h : DO s d) : RisDb d := fun rs hr => by
  obtain ⟨t, ht⟩ := List.mem_iff_getElem?.mp hr
  have hl : t < s.length := by have := (List.getElem?_eq_some_iff.mp ht).1; rw [h.len] at this; exact this
  exact (h.tabs t rs s[t] ht (by simp [hl])).ris
/-- merged tables that are good are of the form that's held -/
theorem unfit_do {s : Schema} {d : Db} (h : DW s d) (hb : Vauowd.brokenOf s d = none) : DO s d := by
  refine h.do fun rs hr => ?_
  rcases Nat.lt_or_ge 8 rs.length with c | c
  · exfalso
    unfold Vauowd.brokenOf at hb
    cases e : d.findIdx? (fun t => decide (VauowBase.ROWS < t.length)) with
    | some t => rw [e] at hb; cases hb
    | none =>
      have := List.findIdx?_eq_none_iff.mp e rs hr
      exact absurd c (of_decide_eq_false this)
  · exact c
end Tw
namespace Tw
open PySem PySem.Spec PyProof.Rows L2
open VauowBase (findRow Db tableAt dbData Schema)
open Vauowd (State Session sessionOf withSession)

variable {P : Program} {w : World} {K : PySem.W.Frag} {mg : Str → Option Value} {base : Heap} {ad : Ads}
/-! ### the object in the heap -/
def hdF (sl : Addr) (n : Nat) (sa ba oa : Addr) : List (Str × V) := [("schema", .ref sl), ("commits", .int n), ("store", .ref sa), ("began", .ref ba), ("own", .ref oa)]
/-- what may be changed: lists and such objects -/
def Mut5 (ad : Ads) (o : HO) : Prop := (∃ xs, o = .lst xs) ∨ ∃ dx fs, o = .ins ad.Held dx fs ∧ fs.length = 5
def MOk (ad : Ads) (H : Hp) (M : List Addr) : Prop := ∀ x ∈ M, ∃ o, H x = some o ∧ Mut5 ad o
/-- the heap without what may be changed -/
def msk (M : List Addr) (H : Hp) : Hp := fun b => if b ∈ M then none else H b
theorem msk_le {M : List Addr} {H : Hp} {b : Addr} {o : HO} (h : msk M H b = some o) : b ∉ M ∧ H b = some o := by
  unfold msk at h
  split at h
  · cases h
  · exact ⟨‹_›, h⟩
theorem msk_in {M : List Addr} {H : Hp} {b : Addr} {o : HO} (n : b ∉ M) (h : H b = some o) : msk M H b = some o := by
  unfold msk
  rw [if_neg n]; exact h
theorem msk_same {M : List Addr} {H : Hp} : Same (msk M H) H := fun b o h => (msk_le h).2
theorem msk_kp {M : List Addr} {H H' : Hp} (k : Kp M H H') : Same (msk M H) (msk M H') := fun b o h => by
  obtain ⟨n, e⟩ := msk_le h
  exact msk_in n (k b o n e)
theorem MOk.no {M : List Addr} {H : Hp} (h : MOk ad H M) {b : Addr} {o : HO} (e : H b = some o) (n : ¬ Mut5 ad o) : b ∉ M := fun m => by
  obtain ⟨o', e', q⟩ := h b m
  rw [e] at e'
  obtain rfl := Option.some.inj e'
  exact n q
theorem MOk.fresh {M : List Addr} {H : Hp} (h : MOk ad H M) {b : Addr} (e : H b = none) : b ∉ M := fun m => by
  obtain ⟨o', e', q⟩ := h b m
  rw [e] at e'; cases e'
theorem MOk.same {M : List Addr} {H H' : Hp} (h : MOk ad H M) (s : Same H H') : MOk ad H' M := fun x hx => by
  obtain ⟨o, e, q⟩ := h x hx
  exact ⟨o, s _ _ e, q⟩
theorem no_dK {ks : List (Key × V)} : ¬ Mut5 ad (.dK ks) := fun z => by
  rcases z with ⟨_, z⟩ | ⟨_, _, z, _⟩ <;> cases z
theorem no_tup5 {xs : List V} : ¬ Mut5 ad (.tup xs) := fun z => by
  rcases z with ⟨_, z⟩ | ⟨_, _, z, _⟩ <;> cases z
theorem no_col {C dx : Addr} {fs : List (Str × V)} (h : fs.length ≠ 5) : ¬ Mut5 ad (.ins C dx fs) := fun z => by
  rcases z with ⟨_, z⟩ | ⟨_, _, z, q⟩
  · cases z
  · injection z with _ _ z
    rw [z] at h
    exact h q
/-- tables of a list that's new -/
theorem DbAt.msk {M : List Addr} {H H' : Hp} (hm : MOk ad H' M) {tl : Addr} {d : Db} (h : DbAt H' tl d) (n : tl ∉ M) : DbAt (msk M H') tl d := by
  obtain ⟨das, e, p⟩ := h.ex
  refine ⟨das, msk_in n e, Paired.mono (fun da rs t => ?_) p⟩
  obtain ⟨kvs, e2, p2⟩ := t.ex
  refine ⟨kvs, msk_in (hm.no e2 no_dK) e2, Paired.mono (fun kv r ⟨ra, e3, e4⟩ => ⟨ra, e3, msk_in (hm.no e4 no_tup5) e4⟩) p2⟩
theorem SchAtN.msk {N : Addr → Prop} {M : List Addr} {H' : Hp} (hm : MOk ad H' M) {sl : Addr} {s : Schema} (h : SchAtN N ad H' sl s) (n : sl ∉ M) (nc : ∀ c, N c → c ∉ M) : SchAt ad (msk M H') sl s := by
  obtain ⟨tas, e, p⟩ := h.ex
  refine ⟨tas, msk_in n e, Paired.mono (fun ta t q => ?_) p⟩
  obtain ⟨dx, cl, cas, a1, a2, a3, a4⟩ := q.ex
  refine ⟨dx, cl, cas, msk_in (hm.no a2 (no_col (by show (2 : Nat) ≠ 5; decide))) a2, msk_in (nc _ a1) a3, Paired.mono (fun ca c hc => ?_) a4⟩
  obtain ⟨dc, hd⟩ := hc.ex
  exact ⟨dc, msk_in (hm.no hd (no_col (by show (7 : Nat) ≠ 5; decide))) hd⟩
structure HeldR (ad : Ads) (M : List Addr) (H : Hp) (a ba oa : Addr) (S : State) : Prop where
  ex : ∃ dx sl sa b0 b1 o0 o1, H a = some (.ins ad.Held dx (hdF sl S.commits sa ba oa)) ∧ H ba = some (.lst [.ref b0, .ref b1]) ∧ H oa = some (.lst [.ref o0, .ref o1]) ∧ SchAt ad (msk M H) sl S.schema ∧ DbAt (msk M H) sa S.store ∧ DbAt (msk M H) b0 S.one.base ∧ DbAt (msk M H) b1 S.two.base ∧ DbAt (msk M H) o0 S.one.mine ∧ DbAt (msk M H) o1 S.two.mine
  ma : a ∈ M
  mb : ba ∈ M
  mo : oa ∈ M
  ne : ba ≠ oa
  ok : MOk ad H M
/-- the schema and the tables of a state are of their form -/
structure GSt (S : State) : Prop where
  gs : GS S.schema
  st : DO S.schema S.store
  b0 : DO S.schema S.one.base
  b1 : DO S.schema S.two.base
  o0 : DO S.schema S.one.mine
  o1 : DO S.schema S.two.mine
theorem HeldR.same {M : List Addr} {H H' : Hp} {a ba oa : Addr} {S : State} (h : HeldR ad M H a ba oa S) (s : Same H H') : HeldR ad M H' a ba oa S := by
  obtain ⟨dx, sl, sa, b0, b1, o0, o1, h1, h2, h3, h4, h5, h6, h7, h8, h9⟩ := h.ex
  have k := msk_kp (M := M) (Kp.of_same s)
  exact ⟨⟨dx, sl, sa, b0, b1, o0, o1, s _ _ h1, s _ _ h2, s _ _ h3, h4.same k, h5.same k, h6.same k, h7.same k, h8.same k, h9.same k⟩, h.ma, h.mb, h.mo, h.ne, h.ok.same s⟩
/-- from one heap to the next -/
structure Nxt (ad : Ads) (H : Hp) (M : List Addr) (a ba oa : Addr) (H' : Hp) (M' : List Addr) (ba' oa' : Addr) (S' : State) : Prop where
  kp : Kp [a, ba, oa] H H'
  hd : HeldR ad M' H' a ba' oa' S'
  up : ∀ x ∈ M, x ∈ M'
  nw : ∀ x ∈ M', x ∈ M ∨ H x = none
  b : ba' = ba ∨ H ba' = none
  o : oa' = oa ∨ H oa' = none
/-- what a call of the object gives back -/
def HPost (ad : Ads) (H : Hp) (M : List Addr) (a ba oa : Addr) (S' : State) (ans : List Int) (Q : VK) : Prop :=
  ∀ r H' M' ba' oa', Nxt ad H M a ba oa H' M' ba' oa' S' → H r = none → r ∉ M' → H' r = some (.lst (ans.map V.int)) → Q (.ref r) H'
theorem HPost.ro {H : Hp} {M : List Addr} {a ba oa : Addr} {S : State} {ans : List Int} {Q : VK} (h : HPost ad H M a ba oa S ans Q) (hd : HeldR ad M H a ba oa S) {r : Addr} {H' : Hp} (s : Same H H') (n : H r = none) (e : H' r = some (.lst (ans.map V.int))) : Q (.ref r) H' :=
  h r H' M ba oa ⟨Kp.of_same s, hd.same s, fun _ z => z, fun _ z => .inl z, .inl rfl, .inl rfl⟩ n (hd.ok.fresh n) e
/-- a new list is answered -/
theorem HPost.lst {H : Hp} {M : List Addr} {a ba oa : Addr} {S : State} {ans : List Int} {Q : VK} (h : HPost ad H M a ba oa S ans Q) (hd : HeldR ad M H a ba oa S) {H1 : Hp} (s1 : Same H H1) : ∀ r, H1 r = none → Q (.ref r) (upd H1 r (.lst (ans.map V.int))) := fun r nr =>
  h.ro hd (s1.trans (al2 nr).1) (fresh_of (as := []) (Kp.of_same s1) nr (by simp)) upd_same
/-- the sides of a session -/
structure SideR (ad : Ads) (H : Hp) (M : List Addr) (a ba oa : Addr) (S : State) (w : Nat) : Prop where
  ex : ∃ dx sl sa bas oas bw ow, H a = some (.ins ad.Held dx (hdF sl S.commits sa ba oa)) ∧ H ba = some (.lst bas) ∧ H oa = some (.lst oas) ∧ atI bas (w : Int) = some (.ref bw) ∧ atI oas (w : Int) = some (.ref ow) ∧ SchAt ad H sl S.schema ∧ DbAt H sa S.store ∧ DbAt H bw (sessionOf S w).base ∧ DbAt H ow (sessionOf S w).mine
theorem HeldR.side {M : List Addr} {H : Hp} {a ba oa : Addr} {S : State} (h : HeldR ad M H a ba oa S) {w : Nat} (hw : w = 0 ∨ w = 1) : SideR ad H M a ba oa S w := by
  obtain ⟨dx, sl, sa, b0, b1, o0, o1, h1, h2, h3, h4, h5, h6, h7, h8, h9⟩ := h.ex
  have k : Same (msk M H) H := msk_same
  rcases hw with rfl | rfl
  · exact ⟨dx, sl, sa, _, _, b0, o0, h1, h2, h3, rfl, rfl, h4.same k, h5.same k, h6.same k, h8.same k⟩
  · exact ⟨dx, sl, sa, _, _, b1, o1, h1, h2, h3, rfl, rfl, h4.same k, h5.same k, h7.same k, h9.same k⟩
theorem GSt.bs {S : State} (g : GSt S) {w : Nat} : DO S.schema (sessionOf S w).base := by
  unfold sessionOf
  split
  · exact g.b0
  · exact g.b1
theorem GSt.mn {S : State} (g : GSt S) {w : Nat} : DO S.schema (sessionOf S w).mine := by
  unfold sessionOf
  split
  · exact g.o0
  · exact g.o1
/-! ### counted -/
abbrev s_counted : Stmt := top 124
theorem sc_counted : FnScope ["found", "answer", "numbers"] ["found"] (defScope s_counted) := ⟨rfl, rfl, rfl, by decide +kernel, rfl, by decide +kernel, by decide +kernel⟩
def sp_counted : Sp := fun vs H Q _ => ∃ (l : Addr) (ws : List V) (xss : List (List Int)), vs = [.ref l] ∧ H l = some (.lst ws) ∧ Paired (IntsR H) ws xss ∧ xss.length ≤ 2000 ∧ (∀ x ∈ xss, x.length ≤ 10) ∧
  ∀ q H', H q = none → Same H H' → H' q = some (.lst ((0 :: (xss.length : Int) :: xss.flatten).map V.int)) → Q (.ref q) H'
theorem ok_counted {f : Addr} {fd : FuncData} (T : Tp K mg ad) (F : Fun K "counted" "counted" s_counted f fd) : FnOk P w K mg base CX0 1 f fd ["found"] sp_counted := by
  refine F.ok sc_counted (fun vs H Q E h => ?_) (fun cdv A outer s H vs Q E hr h => ⟨_, (pss_cons (ps_set (i := 1) sc_counted.nd rfl (.inl rfl) (pe_lst (pa_cons pe_int (pa_cons (pe_callB call_len_seq (by rfl) T.b_len (by decide +kernel) (pa_cons (pv 0) pa_nil)) pa_nil)))) (pss_cons (ps_forO PassesOwn.never rfl (pi_list (pv 0)) (pg_name (i := 2) sc_counted.nd rfl (.inl rfl)) (pss_one (ps_expr (pe_bm PySem.F.plainAttrs_list PySem.F.slot_list_extend PySem.F.type_list_extend mt_extendT (pv 1) (pa_cons (pv 2) pa_nil))))) (pss_one (ps_ret (pv 1))))), ?_⟩)
  · obtain ⟨l, ws, xss, rfl, _⟩ := h
    rfl
  obtain ⟨l, ws, xss, rfl, hl, pr, hz, hx, k⟩ := h
  have hlw := Paired.length pr
  have e0 : [V.int 0, V.int (ws.length : Nat)] = ((0 :: (xss.length : Int) :: ([] : List (List Int)).flatten).map V.int) := by rw [hlw]; rfl
  walk_at "rd"
  intro q nq
  rw [e0]
  obtain ⟨s1, hq⟩ := al2 (o := .lst ((0 :: (xss.length : Int) :: ([] : List (List Int)).flatten).map V.int)) nq
  generalize upd H q (.lst ((0 :: (xss.length : Int) :: ([] : List (List Int)).flatten).map V.int)) = H1 at s1 hq ⊢
  refine ⟨_, rfl, l, rfl, ⟨_, SqL.of (s1 _ _ hl)⟩, for_it (walk_list (xs := ws)) (fun i σ H' => Nx (∃ (x2 : Option V), σ = [some (.ref l), some (.ref q), x2] ∧ Same H H' ∧ H' q = some (.lst ((0 :: (xss.length : Int) :: (xss.take i).flatten).map V.int)))) ⟨_, rfl, s1, hq⟩ (fun i σ H' _ h => ?_) ?_ ?_⟩
  · obtain ⟨_, _, s', _⟩ := h.h
    exact SqL.of (s' _ _ hl)
  · rintro i v σ H2 H2' hi ⟨x2, rfl, s2, hq2⟩ ⟨rfl, hv⟩
    obtain ⟨xs, hxs, xa, rfl, hxa⟩ := paired_get' pr hv
    have hxa2 := s2 _ _ hxa
    have hxl := hx xs (List.mem_of_getElem? hxs)
    have lenA : ((0 :: (xss.length : Int) :: (xss.take i).flatten).map V.int).length + (xs.map V.int).length ≤ 50000 := by
      have := flat_len (f := fun x : List Int => x) (c := 10) (l := xss.take i) fun y hy => hx y (List.mem_of_mem_take hy)
      rw [List.length_take] at this
      have e : (xss.take i).flatten = (xss.take i).flatMap fun x => x := by rw [List.flatMap_id']
      rw [List.length_map, List.length_map, List.length_cons, List.length_cons, e]
      omega
    walk_at "rd"
    intro H3 e3
    refine ⟨⟨_, rfl, fun b u e => by rw [e3, upd_ne (ne_of_none e nq)]; exact s2 b u e, ?_⟩⟩
    rw [e3, upd_same, take_more hxs, List.flatten_append, ← List.map_append]
    show some (HO.lst _) = some (HO.lst _)
    simp
  · rintro σ H2 ⟨x2, rfl, s2, hq2⟩
    rw [hlw, List.take_length] at hq2
    walk_at "rd"
    exact k q H2 nq s2 hq2
end Tw
namespace Tw
open PySem PySem.Spec PyProof.Rows L2
open VauowBase (findRow Db tableAt dbData Schema)
open Vauowd (State Session sessionOf withSession step isSession isMode isChoices)

variable {P : Program} {w : World} {K : PySem.W.Frag} {mg : Str → Option Value} {base : Heap} {ad : Ads}
theorem inV_two (v : Int) : inV (.int v) [V.int 0, V.int 1] = (v == 0 || v == 1) := by
  have := inV_ints v [0, 1]
  rw [show ([0, 1] : List Int).map V.int = [V.int 0, V.int 1] from rfl] at this
  rw [this, List.contains_cons, List.contains_cons, List.contains_nil, Bool.or_false]
theorem is_nat {v : Int} (h : (v == 0 || v == 1) = true) : ∃ n : Nat, v = (n : Int) ∧ v.toNat = n ∧ (n = 0 ∨ n = 1) := by
  rw [Bool.or_eq_true, beq_iff_eq, beq_iff_eq] at h
  rcases h with rfl | rfl
  · exact ⟨0, rfl, rfl, .inl rfl⟩
  · exact ⟨1, rfl, rfl, .inr rfl⟩
abbrev s_Held_changed_by : Stmt := inClass (top 123) 8
theorem sc_Held_changed_by : FnScope ["self", "session"] ["self", "session"] (defScope s_Held_changed_by) := ⟨rfl, rfl, rfl, by decide +kernel, rfl, by decide +kernel, by decide +kernel⟩
def sp_changed_by (ad : Ads) : Sp := fun vs H Q _ => ∃ (a : Addr) (M : List Addr) (ba oa : Addr) (S : State) (v : Nat), vs = [.ref a, .int (v : Int)] ∧ (v = 0 ∨ v = 1) ∧ HeldR ad M H a ba oa S ∧ GSt S ∧
  ∀ q ws H', H q = none → Same H H' → H' q = some (.lst ws) → Paired (IntsR H') ws (chM (sessionOf S v).base (sessionOf S v).mine S.schema.length) → Q (.ref q) H'
theorem ok_changed_by {f : Addr} {fd : FuncData} (T : Tp K mg ad) (c_changed_rows : Fc P w K mg base CX0 2 "changed_rows" ["began", "own"] sp_changed_rows)
    (F : Fun K "changed_by" "Held.changed_by" s_Held_changed_by f fd) : FnOk P w K mg base CX0 3 f fd ["self", "session"] (sp_changed_by ad) := by
  refine F.ok sc_Held_changed_by (fun vs H Q E h => ?_) (fun cdv A outer s H vs Q E hr h => ⟨_, (pss_one (ps_ret (pe_fc c_changed_rows (hr.mono (by decide)) (by rfl) (pa_cons (pe_ix ix_list (pe_fl T.cl_Held T.n_Held_began (pv 0)) (pv 1) (fun _ _ => rfl)) (pa_cons (pe_ix ix_list (pe_fl T.cl_Held T.n_Held_own (pv 0)) (pv 1) (fun _ _ => rfl)) pa_nil))))), ?_⟩)
  · obtain ⟨a, M, ba, oa, S, v, rfl, _⟩ := h
    rfl
  obtain ⟨a, M, ba, oa, S, v, rfl, hv, hd, g, k⟩ := h
  obtain ⟨dx, sl, sa, bas, oas, bw, ow, h1, h2, h3, h4, h5, h6, h7, h8, h9⟩ := (hd.side hv).ex
  have g1 := g.gs
  have g2 := g.bs (w := v)
  have g3 := g.mn (w := v)
  walk_at "rd"
  exact k
abbrev s_Held_clashes_of : Stmt := inClass (top 123) 10
theorem sc_Held_clashes_of : FnScope ["self", "session", "mode"] ["self", "session", "mode"] (defScope s_Held_clashes_of) := ⟨rfl, rfl, rfl, by decide +kernel, rfl, by decide +kernel, by decide +kernel⟩
def sp_clashes_of (ad : Ads) : Sp := fun vs H Q _ => ∃ (a : Addr) (M : List Addr) (ba oa : Addr) (S : State) (v : Nat) (m : Int), vs = [.ref a, .int (v : Int), .int m] ∧ (v = 0 ∨ v = 1) ∧ HeldR ad M H a ba oa S ∧ GSt S ∧
  ∀ q ws H', H q = none → Same H H' → H' q = some (.lst ws) → Paired (IntsR H') ws (fcM (decide (m = 1)) (sessionOf S v).base S.store (sessionOf S v).mine S.schema.length) → Q (.ref q) H'
theorem ok_clashes_of {f : Addr} {fd : FuncData} (T : Tp K mg ad) (c_find_clashes : Fc P w K mg base CX0 3 "find_clashes" ["began", "store", "own", "by_fields"] sp_find_clashes)
    (F : Fun K "clashes_of" "Held.clashes_of" s_Held_clashes_of f fd) : FnOk P w K mg base CX0 4 f fd ["self", "session", "mode"] (sp_clashes_of ad) := by
  refine F.ok sc_Held_clashes_of (fun vs H Q E h => ?_) (fun cdv A outer s H vs Q E hr h => ⟨_, (pss_one (ps_ret (pe_fc c_find_clashes (hr.mono (by decide)) (by rfl) (pa_cons (pe_ix ix_list (pe_fl T.cl_Held T.n_Held_began (pv 0)) (pv 1) (fun _ _ => rfl)) (pa_cons (pe_fl T.cl_Held T.n_Held_store (pv 0)) (pa_cons (pe_ix ix_list (pe_fl T.cl_Held T.n_Held_own (pv 0)) (pv 1) (fun _ _ => rfl)) (pa_cons (pe_cmpR op_eq (pv 2) (pe_cst (by rfl) T.k_BY_FIELDS) (nomark _)) pa_nil))))))), ?_⟩)
  · obtain ⟨a, M, ba, oa, S, v, m, rfl, _⟩ := h
    rfl
  obtain ⟨a, M, ba, oa, S, v, m, rfl, hv, hd, g, k⟩ := h
  obtain ⟨dx, sl, sa, bas, oas, bw, ow, h1, h2, h3, h4, h5, h6, h7, h8, h9⟩ := (hd.side hv).ex
  have g1 := g.gs
  have g2 := g.bs (w := v)
  have g3 := g.mn (w := v)
  have g4 := g.st
  have em : decide (V.int m = V.int 1) = decide (m = 1) := by
    rw [Bool.eq_iff_iff, decide_eq_true_eq, decide_eq_true_eq]
    exact ⟨fun z => by injection z, fun z => by rw [z]⟩
  rw [← em] at k
  walk_at "rd"
  exact k
/-! ### changed, clashes -/
theorem changed_ans (S : State) (v : Nat) : Vauowd.changedRow S v = 0 :: ((chM (sessionOf S v).base (sessionOf S v).mine S.schema.length).length : Int) :: (chM (sessionOf S v).base (sessionOf S v).mine S.schema.length).flatten := by
  unfold Vauowd.changedRow
  rw [ch_spec, List.length_map]
  show _ = 0 :: _ :: _
  congr 2
theorem clashes_ans {S : State} (g : GSt S) (v : Nat) (byRow : Bool) : Vauowd.clashesRow S v byRow = 0 :: ((fcM (!byRow) (sessionOf S v).base S.store (sessionOf S v).mine S.schema.length).length : Int) :: (fcM (!byRow) (sessionOf S v).base S.store (sessionOf S v).mine S.schema.length).flatten := by
  unfold Vauowd.clashesRow
  rw [fc_spec (g.bs (w := v)) g.st (g.mn (w := v)), List.length_map]
  show _ = 0 :: _ :: _
  congr 2
theorem chM_bound {sch : Schema} {b o : Db} (gs : GS sch) (db : DO sch b) (do_ : DO sch o) : (chM b o sch.length).length ≤ 2000 ∧ ∀ x ∈ chM b o sch.length, x.length ≤ 10 := by
  constructor
  · unfold chM
    have := flat_len (f := chT b o) (c := 16) (l := List.range sch.length) fun t ht => chT_len db do_ (List.mem_range.mp ht)
    rw [List.length_range] at this
    have := gs.len
    omega
  · intro x hx
    unfold chM chT at hx
    obtain ⟨t, _, hx⟩ := List.mem_flatMap.mp hx
    obtain ⟨i, _, hx⟩ := List.mem_flatMap.mp hx
    unfold ch1 at hx
    split at hx
    · cases hx
    · rw [List.mem_singleton.mp hx]
      show 3 ≤ 10; omega
theorem fcM_bound {by_ : Bool} {sch : Schema} {b s o : Db} (gs : GS sch) (db : DO sch b) (ds : DO sch s) (do_ : DO sch o) : (fcM by_ b s o sch.length).length ≤ 1000 ∧ ∀ x ∈ fcM by_ b s o sch.length, x.length = 7 := by
  constructor
  · unfold fcM
    have := flat_len (f := fcT by_ b s o) (c := 100) (l := List.range sch.length) fun t ht => fcT_len gs db ds do_ (List.mem_range.mp ht)
    rw [List.length_range] at this
    have := gs.len
    omega
  · intro x hx
    unfold fcM fcT at hx
    obtain ⟨t, _, hx⟩ := List.mem_flatMap.mp hx
    obtain ⟨i, _, hx⟩ := List.mem_flatMap.mp hx
    unfold fc1 at hx
    obtain ⟨c, _, rfl⟩ := List.mem_map.mp hx
    rfl
abbrev s_Held_changed : Stmt := inClass (top 123) 7
theorem sc_Held_changed : FnScope ["self", "session"] ["self", "session"] (defScope s_Held_changed) := ⟨rfl, rfl, rfl, by decide +kernel, rfl, by decide +kernel, by decide +kernel⟩
def sp_changed (ad : Ads) : Sp := fun vs H Q _ => ∃ (a : Addr) (M : List Addr) (ba oa : Addr) (S : State) (v : Int), vs = [.ref a, .int v] ∧ HeldR ad M H a ba oa S ∧ GSt S ∧ HPost ad H M a ba oa S (step S (.changed v)).2 Q
theorem ok_changed {f : Addr} {fd : FuncData} (T : Tp K mg ad) (c_counted : Fc P w K mg base CX0 1 "counted" ["found"] sp_counted) (m_Held_changed_by : Mc P w K mg base CX0 3 ad.Held "changed_by" ["self", "session"] (sp_changed_by ad))
    (F : Fun K "changed" "Held.changed" s_Held_changed f fd) : FnOk P w K mg base CX0 4 f fd ["self", "session"] (sp_changed ad) := by
  refine F.ok sc_Held_changed (fun vs H Q E h => ?_) (fun cdv A outer s H vs Q E hr h => ⟨_, (pss_cons (ps_if (pt_cmpR op_notIn_seq (pv 1) (pe_cst (by rfl) T.k_SESSIONS) (by rfl)) (pss_one (ps_ret (pe_lst (pa_cons (pe_cst (by rfl) T.k_NO_SESSION) pa_nil)))) pss_nil) (pss_one (ps_ret (pe_fc c_counted (hr.mono (by decide)) (by rfl) (pa_cons (pe_mc (pv 0) T.cl_Held m_Held_changed_by (hr.mono (by decide)) pass0 (pa_cons (pv 1) pa_nil)) pa_nil))))), ?_⟩)
  · obtain ⟨a, M, ba, oa, S, v, rfl, _⟩ := h
    rfl
  obtain ⟨a, M, ba, oa, S, v, rfl, hd, g, k⟩ := h
  have hS : SqT K H ad.SESSIONS [V.int 0, V.int 1] := T.t_SESSIONS H
  have eA : (step S (.changed v)).2 = if !(v == 0 || v == 1) then [-3] else Vauowd.changedRow S v.toNat := rfl
  walk_at "rd"
  refine ifnb (b := inV (.int v) [V.int 0, V.int 1]) (fun c1 => ?_) (fun c1 => ?_)
  · rw [inV_two] at c1
    rw [eA, c1] at k
    walk_at "rd"
    exact HPost.lst k hd (Same.refl _)
  · rw [inV_two] at c1
    obtain ⟨n, rfl, hn, hn2⟩ := is_nat c1
    rw [eA, c1, hn] at k
    have k : HPost ad H M a ba oa S (Vauowd.changedRow S n) Q := k
    rw [changed_ans] at k
    obtain ⟨dx, sl, sa, b0, b1, o0, o1, h1, _⟩ := hd.ex
    walk_at "rd"
    intro q ws H1 nq s1 hq pr
    obtain ⟨z1, z2⟩ := chM_bound g.gs (g.bs (w := n)) (g.mn (w := n))
    walk_at "rd"
    exact fun r H2 nr s2 hr => k.ro hd (s1.trans s2) (fresh_of (as := []) (Kp.of_same s1) nr (by simp)) hr
abbrev s_Held_clashes : Stmt := inClass (top 123) 9
theorem sc_Held_clashes : FnScope ["self", "session", "mode"] ["self", "session", "mode"] (defScope s_Held_clashes) := ⟨rfl, rfl, rfl, by decide +kernel, rfl, by decide +kernel, by decide +kernel⟩
def sp_clashes (ad : Ads) : Sp := fun vs H Q _ => ∃ (a : Addr) (M : List Addr) (ba oa : Addr) (S : State) (v m : Int), vs = [.ref a, .int v, .int m] ∧ HeldR ad M H a ba oa S ∧ GSt S ∧ HPost ad H M a ba oa S (step S (.clashes v m)).2 Q
theorem ok_clashes {f : Addr} {fd : FuncData} (T : Tp K mg ad) (c_counted : Fc P w K mg base CX0 1 "counted" ["found"] sp_counted) (m_Held_clashes_of : Mc P w K mg base CX0 4 ad.Held "clashes_of" ["self", "session", "mode"] (sp_clashes_of ad))
    (F : Fun K "clashes" "Held.clashes" s_Held_clashes f fd) : FnOk P w K mg base CX0 5 f fd ["self", "session", "mode"] (sp_clashes ad) := by
  refine F.ok sc_Held_clashes (fun vs H Q E h => ?_) (fun cdv A outer s H vs Q E hr h => ⟨_, (pss_cons (ps_if (pt_cmpR op_notIn_seq (pv 1) (pe_cst (by rfl) T.k_SESSIONS) (by rfl)) (pss_one (ps_ret (pe_lst (pa_cons (pe_cst (by rfl) T.k_NO_SESSION) pa_nil)))) pss_nil) (pss_cons (ps_if (pt_cmpR op_notIn_seq (pv 2) (pe_cst (by rfl) T.k_MODES) (by rfl)) (pss_one (ps_ret (pe_lst (pa_cons (pe_cst (by rfl) T.k_NO_MODE) pa_nil)))) pss_nil) (pss_one (ps_ret (pe_fc c_counted (hr.mono (by decide)) (by rfl) (pa_cons (pe_mc (pv 0) T.cl_Held m_Held_clashes_of (hr.mono (by decide)) pass0 (pa_cons (pv 1) (pa_cons (pv 2) pa_nil))) pa_nil)))))), ?_⟩)
  · obtain ⟨a, M, ba, oa, S, v, m, rfl, _⟩ := h
    rfl
  obtain ⟨a, M, ba, oa, S, v, m, rfl, hd, g, k⟩ := h
  have hS : SqT K H ad.SESSIONS [V.int 0, V.int 1] := T.t_SESSIONS H
  have hM : SqT K H ad.MODES [V.int 0, V.int 1] := T.t_MODES H
  have eA : (step S (.clashes v m)).2 = (if !(v == 0 || v == 1) then (S, [-3]) else if !(m == 0 || m == 1) then (S, [-8]) else (S, Vauowd.clashesRow S v.toNat (m == 0))).2 := rfl
  walk_at "rd"
  refine ifnb (b := inV (.int v) [V.int 0, V.int 1]) (fun c1 => ?_) (fun c1 => ?_)
  · rw [inV_two] at c1
    rw [eA, c1] at k
    walk_at "rd"
    exact HPost.lst k hd (Same.refl _)
  rw [inV_two] at c1
  walk_at "rd"
  refine ifnb (b := inV (.int m) [V.int 0, V.int 1]) (fun c2 => ?_) (fun c2 => ?_)
  · rw [inV_two] at c2
    rw [eA, c1, c2] at k
    walk_at "rd"
    exact HPost.lst k hd (Same.refl _)
  · rw [inV_two] at c2
    obtain ⟨n, rfl, hn, hn2⟩ := is_nat c1
    rw [eA, c1, c2, hn] at k
    have k : HPost ad H M a ba oa S (Vauowd.clashesRow S n (m == 0)) Q := k
    have em : (!(m == 0)) = decide (m = 1) := by
      rw [Bool.or_eq_true, beq_iff_eq, beq_iff_eq] at c2
      rcases c2 with rfl | rfl <;> rfl
    rw [clashes_ans g, em] at k
    obtain ⟨dx, sl, sa, b0, b1, o0, o1, h1, _⟩ := hd.ex
    walk_at "rd"
    intro q ws H1 nq s1 hq pr
    obtain ⟨z1, z2⟩ := fcM_bound (by_ := decide (m = 1)) g.gs (g.bs (w := n)) g.st (g.mn (w := n))
    have z3 : ∀ x ∈ fcM (decide (m = 1)) (sessionOf S n).base S.store (sessionOf S n).mine S.schema.length, x.length ≤ 10 := fun x hx => by rw [z2 x hx]; omega
    walk_at "rd"
    exact fun r H2 nr s2 hr => k.ro hd (s1.trans s2) (fresh_of (as := []) (Kp.of_same s1) nr (by simp)) hr
end Tw
namespace Tw
open PySem PySem.Spec PyProof.Rows L2
open VauowBase (findRow Db tableAt dbData Schema brokenIn)
open Vauowd (State Session sessionOf withSession step isSession isMode isChoices onGood)

variable {P : Program} {w : World} {K : PySem.W.Frag} {mg : Str → Option Value} {base : Heap} {ad : Ads}
theorem putF_len (f : Str) (v : V) : ∀ fs : List (Str × V), (putF f v fs).length ≤ fs.length + 1
  | [] => Nat.le_refl _
  | (g, x) :: r => by
    show (if g = f then (g, v) :: r else (g, x) :: putF f v r).length ≤ _
    split
    · show r.length + 1 ≤ r.length + 1 + 1; omega
    · have := putF_len f v r
      show (putF f v r).length + 1 ≤ r.length + 1 + 1
      omega
/-! ### begin_with, __init__ -/
abbrev s_Held_begin_with : Stmt := inClass (top 123) 1
theorem sc_Held_begin_with : FnScope ["self", "tables"] ["self", "tables"] (defScope s_Held_begin_with) := ⟨rfl, rfl, rfl, by decide +kernel, rfl, by decide +kernel, by decide +kernel⟩
def sp_begin_with (ad : Ads) : Sp := fun vs H Q _ => ∃ (a t dx sl : Addr) (fs : List (Str × V)), vs = [.ref a, .ref t] ∧ H a = some (.ins ad.Held dx fs) ∧ fs.length ≤ 5 ∧
  (∀ t y z : Addr, putF "own" (.ref z) (putF "began" (.ref y) (putF "store" (.ref t) (putF "commits" (.int 0) fs))) = hdF sl 0 t y z) ∧
  ∀ H' ba oa, Kp [a] H H' → H' a = some (.ins ad.Held dx (hdF sl 0 t ba oa)) → H ba = none → H oa = none → ba ≠ oa → H' ba = some (.lst [.ref t, .ref t]) → H' oa = some (.lst [.ref t, .ref t]) → Q .non H'
theorem ok_begin_with {f : Addr} {fd : FuncData} (T : Tp K mg ad) (F : Fun K "begin_with" "Held.begin_with" s_Held_begin_with f fd) : FnOk P w K mg base CX0 1 f fd ["self", "tables"] (sp_begin_with ad) := by
  refine F.ok sc_Held_begin_with (fun vs H Q E h => ?_) (fun cdv A outer s H vs Q E hr h => ⟨_, (pss_cons (ps_fl T.cl_Held T.n_Held_commits (pv 0) pe_int) (pss_cons (ps_fl T.cl_Held T.n_Held_store (pv 0) (pv 1)) (pss_cons (ps_fl T.cl_Held T.n_Held_began (pv 0) (pe_lst (pa_cons (pv 1) (pa_cons (pv 1) pa_nil)))) (pss_one (ps_fl T.cl_Held T.n_Held_own (pv 0) (pe_lst (pa_cons (pv 1) (pa_cons (pv 1) pa_nil)))))))), ?_⟩)
  · obtain ⟨a, t, dx, sl, fs, rfl, _⟩ := h
    rfl
  obtain ⟨a, t, dx, sl, fs, rfl, h1, hl, hf, k⟩ := h
  have hl0 : fs.length < 1000 := by omega
  have hl1 := putF_len "commits" (.int 0) fs
  generalize e1 : putF "commits" (.int 0) fs = fs1 at hl1 hf
  have hl1' : fs1.length < 1000 := by omega
  have hl2 := putF_len "store" (.ref t) fs1
  have hf := hf t
  generalize e2 : putF "store" (.ref t) fs1 = fs2 at hl2 hf
  have hl2' : fs2.length < 1000 := by omega
  walk_at "rd"
  intro H1 u1
  rw [e1] at u1
  have k1 : Kp [a] H H1 := by rw [u1]; exact Kp.upd (by simp)
  have h11 : H1 a = some (.ins ad.Held dx fs1) := by rw [u1]; exact upd_same
  clear u1
  walk_at "rd"
  intro H2 u2
  rw [e2] at u2
  have k2 : Kp [a] H H2 := k1.trans (by rw [u2]; exact Kp.upd (by simp))
  have h12 : H2 a = some (.ins ad.Held dx fs2) := by rw [u2]; exact upd_same
  clear u2
  walk_at "rd"
  intro ba nb
  obtain ⟨s3, hb3⟩ := al2 (o := .lst [.ref t, .ref t]) nb
  generalize upd H2 ba (.lst [.ref t, .ref t]) = H3 at s3 hb3 ⊢
  have h13 := s3 _ _ h12
  have ab : ba ≠ a := fun z => by rw [z, h12] at nb; cases nb
  have nbH : H ba = none := fresh_of k2 nb (fun y hy e => by rw [List.mem_singleton.mp hy, h12] at e; cases e)
  walk_at "rd"
  intro H4 u4
  have hl3 := putF_len "began" (.ref ba) fs2
  have hf := hf ba
  generalize e3 : putF "began" (.ref ba) fs2 = fs3 at hl3 hf u4
  have hl3' : fs3.length < 1000 := by omega
  have k4 : Kp [a] H H4 := (k2.trans (Kp.of_same s3)).trans (by rw [u4]; exact Kp.upd (by simp))
  have h14 : H4 a = some (.ins ad.Held dx fs3) := by rw [u4]; exact upd_same
  have hb4 : H4 ba = some (.lst [.ref t, .ref t]) := by rw [u4, upd_ne ab]; exact hb3
  clear u4
  walk_at "rd"
  intro oa no
  obtain ⟨s5, ho5⟩ := al2 (o := .lst [.ref t, .ref t]) no
  generalize upd H4 oa (.lst [.ref t, .ref t]) = H5 at s5 ho5 ⊢
  have h15 := s5 _ _ h14
  have hb5 := s5 _ _ hb4
  have ao : oa ≠ a := fun z => by rw [z, h14] at no; cases no
  have bo : ba ≠ oa := fun z => by rw [← z, hb4] at no; cases no
  have noH : H oa = none := fresh_of k4 no (fun y hy e => by rw [List.mem_singleton.mp hy, h14] at e; cases e)
  walk_at "rd"
  intro H6 u6
  rw [hf oa] at u6
  exact k H6 ba oa ((k4.trans (Kp.of_same s5)).trans (by rw [u6]; exact Kp.upd (by simp))) (by rw [u6]; exact upd_same) nbH noH bo (by rw [u6, upd_ne ab]; exact hb5) (by rw [u6, upd_ne ao]; exact ho5)
abbrev s_Held_init : Stmt := inClass (top 123) 0
theorem sc_Held_init : FnScope ["self"] ["self"] (defScope s_Held_init) := ⟨rfl, rfl, rfl, by decide +kernel, rfl, by decide +kernel, by decide +kernel⟩
def sp_Held_init (ad : Ads) : Sp := fun vs H Q _ => ∃ (x dx : Addr), vs = [.ref x] ∧ H x = some (.ins ad.Held dx []) ∧
  ∀ H' sl t ba oa, Kp [x] H H' → H' x = some (.ins ad.Held dx (hdF sl 0 t ba oa)) → H sl = none → H t = none → H ba = none → H oa = none → ba ≠ oa → H' sl = some (.lst []) → H' t = some (.lst []) → H' ba = some (.lst [.ref t, .ref t]) → H' oa = some (.lst [.ref t, .ref t]) → Q .non H'
theorem ok_Held_init {f : Addr} {fd : FuncData} (T : Tp K mg ad) (m_Held_begin_with : Mc P w K mg base CX0 1 ad.Held "begin_with" ["self", "tables"] (sp_begin_with ad))
    (F : Fun K "__init__" "Held.__init__" s_Held_init f fd) : FnOk P w K mg base CX0 2 f fd ["self"] (sp_Held_init ad) := by
  refine F.ok sc_Held_init (fun vs H Q E h => ?_) (fun cdv A outer s H vs Q E hr h => ⟨_, (pss_cons (ps_fl T.cl_Held T.n_Held_schema (pv 0) (pe_lst pa_nil)) (pss_one (ps_expr (pe_mc (pv 0) T.cl_Held m_Held_begin_with (hr.mono (by decide)) pass0 (pa_cons (pe_lst pa_nil) pa_nil))))), ?_⟩)
  · obtain ⟨x, dx, rfl, _⟩ := h
    rfl
  obtain ⟨x, dx, rfl, h1, k⟩ := h
  walk_at "rd"
  intro sl ns
  obtain ⟨s1, hs1⟩ := al2 (o := .lst []) ns
  generalize upd H sl (.lst []) = H1 at s1 hs1 ⊢
  have h11 := s1 _ _ h1
  have xs : sl ≠ x := fun z => by rw [z, h1] at ns; cases ns
  walk_at "rd"
  intro H2 u2
  have k2 : Kp [x] H H2 := (Kp.of_same s1).trans (by rw [u2]; exact Kp.upd (by simp))
  have h12 : H2 x = some (.ins ad.Held dx [("schema", .ref sl)]) := by rw [u2]; exact upd_same
  have hs2 : H2 sl = some (.lst []) := by rw [u2, upd_ne xs]; exact hs1
  clear u2
  walk_at "rd"
  intro t nt
  obtain ⟨s3, ht3⟩ := al2 (o := .lst []) nt
  generalize upd H2 t (.lst []) = H3 at s3 ht3 ⊢
  have h13 := s3 _ _ h12
  have hs3 := s3 _ _ hs2
  have xt : t ≠ x := fun z => by rw [z, h12] at nt; cases nt
  have ntH : H t = none := fresh_of k2 nt (fun y hy e => by rw [List.mem_singleton.mp hy, h12] at e; cases e)
  have lf : ([("schema", .ref sl)] : List (Str × V)).length ≤ 5 := by show 1 ≤ 5; omega
  have hf : ∀ t y z : Addr, putF "own" (.ref z) (putF "began" (.ref y) (putF "store" (.ref t) (putF "commits" (.int 0) [("schema", .ref sl)]))) = hdF sl 0 t y z := fun _ _ _ => rfl
  walk_at "rd"
  intro H4 ba oa k4 h14 nb no bo hb4 ho4
  have fr : ∀ {b : Addr}, H3 b = none → H b = none := fun {b} e => fresh_of (k2.trans (Kp.of_same s3)) e (fun y hy e => by rw [List.mem_singleton.mp hy, h13] at e; cases e)
  walk_at "rd"
  exact k H4 sl t ba oa ((k2.trans (Kp.of_same s3)).trans k4) h14 ns ntH (fr nb) (fr no) bo (k4 _ _ (by simpa using xs) hs3) (k4 _ _ (by simpa using xt) ht3) hb4 ho4
/-! ### judge_tables -/
def jM (S : State) : Option Db → List Int
  | none => [-4]
  | some d => match (brokenIn S.schema d).head? with
    | some b => 1 :: Vauowd.brokenRow b
    | none => [0]
abbrev s_Held_judge_tables : Stmt := inClass (top 123) 6
theorem sc_Held_judge_tables : FnScope ["self", "tables", "broken"] ["self", "tables"] (defScope s_Held_judge_tables) := ⟨rfl, rfl, rfl, by decide +kernel, rfl, by decide +kernel, by decide +kernel⟩
def sp_judge_tables (ad : Ads) : Sp := fun vs H Q _ => ∃ (a : Addr) (M : List Addr) (ba oa : Addr) (S : State) (vt : V) (o : Option Db), vs = [.ref a, vt] ∧ HeldR ad M H a ba oa S ∧ GSt S ∧ (o = none → vt = .non) ∧ (∀ d, o = some d → ∃ tl, vt = .ref tl ∧ DbAt H tl d ∧ DO S.schema d) ∧
  ∀ q H', H q = none → Same H H' → H' q = some (.lst ((jM S o).map V.int)) → Q (.ref q) H'
theorem ok_judge_tables {f : Addr} {fd : FuncData} (T : Tp K mg ad) (c_first_broken : Fc P w K mg base CX0 3 "first_broken" ["schema", "tables"] (sp_first_broken ad))
    (F : Fun K "judge_tables" "Held.judge_tables" s_Held_judge_tables f fd) : FnOk P w K mg base CX0 4 f fd ["self", "tables"] (sp_judge_tables ad) := by
  refine F.ok sc_Held_judge_tables (fun vs H Q E h => ?_) (fun cdv A outer s H vs Q E hr h => ⟨_, (pss_cons (ps_if (pt_cmpR op_isN (pv 1) pe_non (nomark _)) (pss_one (ps_ret (pe_lst (pa_cons (pe_cst (by rfl) T.k_NOT_ROWS) pa_nil)))) pss_nil) (pss_cons (ps_set (i := 2) sc_Held_judge_tables.nd rfl (.inl rfl) (pe_fc c_first_broken (hr.mono (by decide)) (by rfl) (pa_cons (pe_fl T.cl_Held T.n_Held_schema (pv 0)) (pa_cons (pv 1) pa_nil)))) (pss_cons (ps_if (pt_cmpR op_gt (pe_callB call_len_seq (by rfl) T.b_len (by decide +kernel) (pa_cons (pv 2) pa_nil)) pe_int (nomark _)) (pss_one (ps_ret (pe_op op_cat (pe_lst (pa_cons pe_int pa_nil)) (pv 2)))) pss_nil) (pss_one (ps_ret (pe_lst (pa_cons pe_int pa_nil))))))), ?_⟩)
  · obtain ⟨a, M, ba, oa, S, vt, o, rfl, _⟩ := h
    rfl
  obtain ⟨a, M, ba, oa, S, vt, o, rfl, hd, g, ho1, ho2, k⟩ := h
  cases o with
  | none =>
    obtain rfl := ho1 rfl
    walk_at "rd"
    exact fun q nq => k q _ nq (al2 nq).1 upd_same
  | some d =>
    obtain ⟨tl, rfl, hdb, dd⟩ := ho2 d rfl
    obtain ⟨dx, sl, sa, b0, b1, o0, o1, h1, _, _, h4, _⟩ := hd.ex
    have h4 := h4.same msk_same
    have gs := g.gs
    walk_at "rd"
    intro q H1 nq s1 hq
    have ek : jM S (some d) = match (brokenIn S.schema d).head? with
      | some b => 1 :: Vauowd.brokenRow b
      | none => [0] := rfl
    rw [ek] at k
    walk_at "rd"
    cases eb : (brokenIn S.schema d).head? with
    | none =>
      rw [eb] at k hq
      refine ifd (fun c2 => absurd c2 (by show ¬ (0 : Int) < 0; decide)) (fun c2 => ?_)
      walk_at "rd"
      exact fun r nr => k r _ (fresh_of (as := []) (Kp.of_same s1) nr (by simp)) (s1.trans (al2 nr).1) upd_same
    | some b =>
      rw [eb] at k hq
      refine ifd (fun c2 => ?_) (fun c2 => absurd (by show (0 : Int) < 4; decide) c2)
      have hq4 : (brkB (some b)).length = 4 := rfl
      walk_at "rd"
      intro p np
      obtain ⟨s2, hp⟩ := al2 (o := .lst [V.int 1]) np
      generalize upd H1 p (.lst [V.int 1]) = H2 at s2 hp ⊢
      have hq2 := s2 _ _ hq
      walk_at "rd"
      exact fun r nr => k r _ (fresh_of (as := []) (Kp.of_same (s1.trans s2)) nr (by simp)) ((s1.trans s2).trans (al2 nr).1) upd_same
end Tw
namespace Tw
open PySem PySem.Spec PyProof.Rows L2
open VauowBase (findRow Db tableAt dbData Schema brokenIn dbFrom)
open Vauowd (State Session sessionOf withSession step isSession isMode isChoices onGood)

variable {P : Program} {w : World} {K : PySem.W.Frag} {mg : Str → Option Value} {base : Heap} {ad : Ads}
theorem jM_zero {S : State} {o : Option Db} : jM S o = [0] ↔ ∃ d, o = some d ∧ (brokenIn S.schema d).head? = none := by
  cases o with
  | none => exact ⟨(fun z => by cases z), (fun ⟨_, z, _⟩ => by cases z)⟩
  | some d =>
    show (match (brokenIn S.schema d).head? with
      | some b => 1 :: Vauowd.brokenRow b
      | none => [0]) = [0] ↔ _
    cases e : (brokenIn S.schema d).head? with
    | none => exact ⟨fun _ => ⟨d, rfl, e⟩, fun _ => rfl⟩
    | some b => exact ⟨(fun z => by cases z), (fun ⟨d', z, z2⟩ => by
        obtain rfl := Option.some.inj z
        rw [e] at z2; cases z2)⟩
theorem onGood_eq (S : State) (l : List Int) (f : Db → State × List Int) : onGood S l f = match dbFrom S.schema l with
  | none => (S, jM S none)
  | some d => match (brokenIn S.schema d).head? with
    | some b => (S, jM S (some d))
    | none => f d := by
  unfold onGood
  cases e : dbFrom S.schema l with
  | none => rfl
  | some d =>
    show (match (brokenIn S.schema d).head? with
      | some b => (S, 1 :: Vauowd.brokenRow b)
      | none => f d) = _
    cases e2 : (brokenIn S.schema d).head? with
    | none => show _ = (match (brokenIn S.schema d).head? with | some b => (S, jM S (some d)) | none => f d); rw [e2]
    | some b =>
      show _ = (match (brokenIn S.schema d).head? with | some b => (S, jM S (some d)) | none => f d)
      rw [e2]
      show (S, 1 :: Vauowd.brokenRow b) = (S, jM S (some d))
      have : jM S (some d) = match (brokenIn S.schema d).head? with | some b => 1 :: Vauowd.brokenRow b | none => [0] := rfl
      rw [this, e2]
theorem not_good {S : State} {l : List Int} {f : Db → State × List Int} (h : jM S (dbFrom S.schema l) ≠ [0]) : onGood S l f = (S, jM S (dbFrom S.schema l)) := by
  rw [onGood_eq]
  cases e : dbFrom S.schema l with
  | none => rfl
  | some d =>
    rw [e] at h
    show (match (brokenIn S.schema d).head? with | some b => (S, jM S (some d)) | none => f d) = _
    cases e2 : (brokenIn S.schema d).head? with
    | none => exact absurd (jM_zero.mpr ⟨d, rfl, e2⟩) h
    | some b => rfl
theorem is_good {S : State} {l : List Int} {f : Db → State × List Int} (h : jM S (dbFrom S.schema l) = [0]) : ∃ d, dbFrom S.schema l = some d ∧ onGood S l f = f d := by
  obtain ⟨d, e, e2⟩ := jM_zero.mp h
  refine ⟨d, e, ?_⟩
  rw [onGood_eq, e]
  show (match (brokenIn S.schema d).head? with | some b => (S, jM S (some d)) | none => f d) = _
  rw [e2]
/-- the tables that all sides have -/
def filled (S : State) (d : Db) : State := { S with store := d, one := { base := d, mine := d }, two := { base := d, mine := d }, commits := 0 }
/-- begin_with's end -/
theorem held_begun {M : List Addr} {H H' : Hp} {a b0 o0 dx sl t ba oa : Addr} {S : State} (hok : MOk ad H M) (ma : a ∈ M) (h1 : ∃ fs, H a = some (.ins ad.Held dx fs)) (k : Kp [a] H H') (h2 : H' a = some (.ins ad.Held dx (hdF sl 0 t ba oa)))
    (nb : H ba = none) (no : H oa = none) (bo : ba ≠ oa) (hb : H' ba = some (.lst [.ref t, .ref t])) (ho : H' oa = some (.lst [.ref t, .ref t])) {d : Db} (hs : SchAt ad (msk M H) sl S.schema) (hd : DbAt (msk M H) t d) (e : S = filled S d) :
    HeldR ad (ba :: oa :: M) H' a ba oa S := by
  have kM : Kp M H H' := k.wider (by simpa using ma)
  have s0 : Same (msk M H) (msk (ba :: oa :: M) H') := fun b o q => by
    obtain ⟨n, e⟩ := msk_le q
    refine msk_in (fun m => ?_) (kM b o n e)
    rcases List.mem_cons.mp m with z | m
    · rw [z, nb] at e; cases e
    · rcases List.mem_cons.mp m with z | m
      · rw [z, no] at e; cases e
      · exact n m
  refine ⟨⟨dx, sl, t, t, t, t, t, by rw [h2, e]; rfl, hb, ho, hs.same s0, by rw [e]; exact hd.same s0, by rw [e]; exact hd.same s0, by rw [e]; exact hd.same s0, by rw [e]; exact hd.same s0, by rw [e]; exact hd.same s0⟩, by simp [ma], by simp, by simp, bo, fun x hx => ?_⟩
  rcases List.mem_cons.mp hx with z | hx
  · exact ⟨_, by rw [z]; exact hb, .inl ⟨_, rfl⟩⟩
  · rcases List.mem_cons.mp hx with z | hx
    · exact ⟨_, by rw [z]; exact ho, .inl ⟨_, rfl⟩⟩
    · by_cases ea : x = a
      · exact ⟨_, by rw [ea]; exact h2, .inr ⟨_, _, rfl, rfl⟩⟩
      · obtain ⟨o, eo, m5⟩ := hok x hx
        exact ⟨o, k x o (by simpa using ea) eo, m5⟩
theorem nxt_begun {M : List Addr} {H H1 H' : Hp} {a ba oa ba' oa' : Addr} {S' : State} (s1 : Same H H1) (k : Kp [a] H1 H') (nb : H1 ba' = none) (no : H1 oa' = none) (h : HeldR ad (ba' :: oa' :: M) H' a ba' oa' S') : Nxt ad H M a ba oa H' (ba' :: oa' :: M) ba' oa' S' := by
  have nb0 : H ba' = none := fresh_of (as := []) (Kp.of_same s1) nb (by simp)
  have no0 : H oa' = none := fresh_of (as := []) (Kp.of_same s1) no (by simp)
  refine ⟨(Kp.of_same s1).trans (k.wider (by simp)), h, fun x hx => by simp [hx], fun x hx => ?_, .inr nb0, .inr no0⟩
  rcases List.mem_cons.mp hx with rfl | hx
  · exact .inr nb0
  · rcases List.mem_cons.mp hx with rfl | hx
    · exact .inr no0
    · exact .inl hx
abbrev s_Held_fill : Stmt := inClass (top 123) 4
theorem sc_Held_fill : FnScope ["self", "numbers", "tables", "answer"] ["self", "numbers"] (defScope s_Held_fill) := ⟨rfl, rfl, rfl, by decide +kernel, rfl, by decide +kernel, by decide +kernel⟩
def sp_fill (ad : Ads) : Sp := fun vs H Q _ => ∃ (a na : Addr) (M : List Addr) (ba oa : Addr) (S : State) (l : List Int), vs = [.ref a, .ref na] ∧ HeldR ad M H a ba oa S ∧ GSt S ∧ H na = some (.lst (l.map V.int)) ∧ HPost ad H M a ba oa (step S (.fill l)).1 (step S (.fill l)).2 Q
theorem ok_fill {f : Addr} {fd : FuncData} (T : Tp K mg ad) (c_read_tables : Fc P w K mg base CX0 3 "read_tables" ["schema", "numbers"] (sp_read_tables ad)) (m_Held_judge_tables : Mc P w K mg base CX0 4 ad.Held "judge_tables" ["self", "tables"] (sp_judge_tables ad))
    (m_Held_begin_with : Mc P w K mg base CX0 1 ad.Held "begin_with" ["self", "tables"] (sp_begin_with ad))
    (F : Fun K "fill" "Held.fill" s_Held_fill f fd) : FnOk P w K mg base CX0 5 f fd ["self", "numbers"] (sp_fill ad) := by
  refine F.ok sc_Held_fill (fun vs H Q E h => ?_) (fun cdv A outer s H vs Q E hr h => ⟨_, (pss_cons (ps_set (i := 2) sc_Held_fill.nd rfl (.inl rfl) (pe_fc c_read_tables (hr.mono (by decide)) (by rfl) (pa_cons (pe_fl T.cl_Held T.n_Held_schema (pv 0)) (pa_cons (pv 1) pa_nil)))) (pss_cons (ps_set (i := 3) sc_Held_fill.nd rfl (.inl rfl) (pe_mc (pv 0) T.cl_Held m_Held_judge_tables (hr.mono (by decide)) pass0 (pa_cons (pv 2) pa_nil))) (pss_cons (ps_if (pt_cmpR (op_eqO hr.units) (pv 3) (pe_lst (pa_cons pe_int pa_nil)) (nomark _)) (pss_one (ps_expr (pe_mc (pv 0) T.cl_Held m_Held_begin_with (hr.mono (by decide)) pass0 (pa_cons (pv 2) pa_nil)))) pss_nil) (pss_one (ps_ret (pv 3)))))), ?_⟩)
  · obtain ⟨a, na, M, ba, oa, S, l, rfl, _⟩ := h
    rfl
  obtain ⟨a, na, M, ba, oa, S, l, rfl, hd, g, hna, k⟩ := h
  obtain ⟨dx, sl, sa, b0, b1, o0, o1, h1, _, _, h4, _⟩ := id hd.ex
  have h4' := h4.same msk_same
  have gs := g.gs
  have eA : step S (.fill l) = onGood S l fun d => (filled S d, [0]) := rfl
  rw [eA] at k
  walk_at "rd"
  -- judged, and all that follows
  have rest : ∀ (vt : V) (H1 : Hp), Same H H1 → (dbFrom S.schema l = none → vt = .non) → (∀ d, dbFrom S.schema l = some d → ∃ tl, vt = .ref tl ∧ H tl = none ∧ DbAt H1 tl d) → ∃ (o : Option Db), o = dbFrom S.schema l ∧ HeldR ad M H1 a ba oa S ∧ (o = none → vt = .non) ∧ (∀ d, o = some d → ∃ tl, vt = .ref tl ∧ DbAt H1 tl d ∧ DO S.schema d) := fun vt H1 s1 q1 q2 => by
    refine ⟨_, rfl, hd.same s1, q1, fun d e => ?_⟩
    obtain ⟨tl, e1, _, e2⟩ := q2 d e
    exact ⟨tl, e1, e2, db_ok e⟩
  have h10 : ∀ {H1 : Hp}, Same H H1 → H1 a = some (.ins ad.Held dx (hdF sl S.commits sa ba oa)) := fun s1 => s1 _ _ h1
  refine ⟨fun en H1 s1 => ?_, fun d ed tl H1 s1 ntl hdb => ?_⟩
  · have hd1 := hd.same s1
    have h11 := h10 s1
    have q1 : dbFrom S.schema l = none → V.non = .non := fun _ => rfl
    have q2 : ∀ d, dbFrom S.schema l = some d → ∃ tl, V.non = .ref tl ∧ DbAt H1 tl d ∧ DO S.schema d := fun d e => by rw [en] at e; cases e
    walk_at "rd"
    intro r H2 nr s2 hr2
    have ej : jM S (dbFrom S.schema l) = [-4] := by rw [en]; rfl
    have hne : jM S (dbFrom S.schema l) ≠ [0] := by rw [ej]; decide
    rw [not_good hne] at k
    have od1 : OdR H2 (V.ref r) (.lst (jM S (dbFrom S.schema l))) := ⟨r, rfl, hr2⟩
    walk_at "rd"
    intro z nz
    obtain ⟨s3, hz⟩ := al2 (o := .lst [V.int 0]) nz
    generalize upd H2 z (.lst [V.int 0]) = H3 at s3 hz ⊢
    have od2 : OdR H3 (V.ref r) (.lst (jM S (dbFrom S.schema l))) := od1.same s3
    have od3 : OdR H3 (V.ref z) (.lst [0]) := ⟨z, rfl, hz⟩
    have okk : (match OD.lst (jM S (dbFrom S.schema l)), OD.lst [0] with | .row _, .lst _ => False | .lst _, .row _ => False | _, _ => True) := trivial
    walk_at "rd"
    refine ifd (fun c1 => ?_) (fun c1 => ?_)
    · injection c1 with c1
      exact absurd c1 hne
    · walk_at "rd"
      exact k.ro hd ((s1.trans s2).trans s3) (fresh_of (as := []) (Kp.of_same s1) nr (by simp)) (s3 _ _ hr2)
  · have hd1 := hd.same s1
    have h11 := h10 s1
    have q1 : dbFrom S.schema l = none → V.ref tl = .non := fun e => by rw [ed] at e; cases e
    have q2 : ∀ d, dbFrom S.schema l = some d → ∃ t, V.ref tl = .ref t ∧ DbAt H1 t d ∧ DO S.schema d := fun d' e => by
      rw [ed] at e
      obtain rfl := Option.some.inj e
      exact ⟨tl, rfl, hdb, db_ok ed⟩
    walk_at "rd"
    intro r H2 nr s2 hr2
    have od1 : OdR H2 (V.ref r) (.lst (jM S (dbFrom S.schema l))) := ⟨r, rfl, hr2⟩
    walk_at "rd"
    intro z nz
    obtain ⟨s3, hz⟩ := al2 (o := .lst [V.int 0]) nz
    generalize upd H2 z (.lst [V.int 0]) = H3 at s3 hz ⊢
    have od2 : OdR H3 (V.ref r) (.lst (jM S (dbFrom S.schema l))) := od1.same s3
    have od3 : OdR H3 (V.ref z) (.lst [0]) := ⟨z, rfl, hz⟩
    have okk : (match OD.lst (jM S (dbFrom S.schema l)), OD.lst [0] with | .row _, .lst _ => False | .lst _, .row _ => False | _, _ => True) := trivial
    have s03 := (s1.trans s2).trans s3
    have nrH : H r = none := fresh_of (as := []) (Kp.of_same s1) nr (by simp)
    walk_at "rd"
    refine ifd (fun c1 => ?_) (fun c1 => ?_)
    · have c1 : jM S (dbFrom S.schema l) = [0] := by injection c1
      obtain ⟨d', e1, e2⟩ := is_good (f := fun d => (filled S d, [0])) c1
      rw [e2] at k
      rw [ed] at e1
      obtain rfl := Option.some.inj e1
      have h13 := h10 s03
      have lf : (hdF sl S.commits sa ba oa).length ≤ 5 := Nat.le_refl 5
      have hf : ∀ t y z : Addr, putF "own" (.ref z) (putF "began" (.ref y) (putF "store" (.ref t) (putF "commits" (.int 0) (hdF sl S.commits sa ba oa)))) = hdF sl 0 t y z := fun _ _ _ => rfl
      walk_at "rd"
      intro H4 ba' oa' k4 h14 nb no bo hb4 ho4
      have hok3 := hd.ok.same s03
      have tlM : tl ∉ M := hd.ok.fresh ntl
      have hdb3 : DbAt (msk M H3) tl d := (hdb.same (s2.trans s3)).msk (H := H) hok3 tlM
      have hs3 : SchAt ad (msk M H3) sl S.schema := h4.same (msk_kp (Kp.of_same s03))
      have hh := held_begun (S := filled S d) (b0 := b0) (o0 := o0) hok3 hd.ma ⟨_, h13⟩ k4 h14 nb no bo hb4 ho4 hs3 hdb3 rfl
      have ra : r ≠ a := fun z => by rw [z, h1] at nrH; cases nrH
      have hr3 := s3 _ _ hr2
      have hr4 : H4 r = some (.lst (([0] : List Int).map V.int)) := by
        rw [c1] at hr3
        exact k4 _ _ (by simpa using ra) hr3
      have rM' : r ∉ ba' :: oa' :: M := fun m => by
        rcases List.mem_cons.mp m with z | m
        · rw [← z, hr3] at nb; cases nb
        · rcases List.mem_cons.mp m with z | m
          · rw [← z, hr3] at no; cases no
          · exact hd.ok.fresh nrH m
      walk_at "rd"
      exact k r H4 (ba' :: oa' :: M) ba' oa' (nxt_begun s03 k4 nb no hh) nrH rM' hr4
    · have hne : jM S (dbFrom S.schema l) ≠ [0] := fun z => c1 (by rw [z])
      rw [not_good hne] at k
      walk_at "rd"
      exact k.ro hd s03 nrH (s3 _ _ hr2)
end Tw
namespace Tw
open PySem PySem.Spec PyProof.Rows L2
open VauowBase (findRow Db tableAt dbData Schema brokenIn dbFrom)
open Vauowd (State Session sessionOf withSession step isSession isMode isChoices onGood)

variable {P : Program} {w : World} {K : PySem.W.Frag} {mg : Str → Option Value} {base : Heap} {ad : Ads}
/-- the object and its lists changed -/
theorem held_put {M : List Addr} {H H' : Hp} {a ba oa : Addr} {S S' : State} (h : HeldR ad M H a ba oa S) (k : Kp [a, ba, oa] H H') {dx sl sa b0 b1 o0 o1 : Addr} (h1 : H' a = some (.ins ad.Held dx (hdF sl S'.commits sa ba oa))) (h2 : H' ba = some (.lst [.ref b0, .ref b1])) (h3 : H' oa = some (.lst [.ref o0, .ref o1]))
    (h4 : SchAt ad (msk M H) sl S'.schema) (h5 : DbAt (msk M H) sa S'.store) (h6 : DbAt (msk M H) b0 S'.one.base) (h7 : DbAt (msk M H) b1 S'.two.base) (h8 : DbAt (msk M H) o0 S'.one.mine) (h9 : DbAt (msk M H) o1 S'.two.mine) : HeldR ad M H' a ba oa S' := by
  have kM : Kp M H H' := k.wider (by intro x hx; simp at hx; rcases hx with rfl | rfl | rfl <;> first | exact h.ma | exact h.mb | exact h.mo)
  have s := msk_kp kM
  refine ⟨⟨dx, sl, sa, b0, b1, o0, o1, h1, h2, h3, h4.same s, h5.same s, h6.same s, h7.same s, h8.same s, h9.same s⟩, h.ma, h.mb, h.mo, h.ne, fun x hx => ?_⟩
  by_cases ea : x = a
  · exact ⟨_, by rw [ea]; exact h1, .inr ⟨_, _, rfl, rfl⟩⟩
  · by_cases eb : x = ba
    · exact ⟨_, by rw [eb]; exact h2, .inl ⟨_, rfl⟩⟩
    · by_cases eo : x = oa
      · exact ⟨_, by rw [eo]; exact h3, .inl ⟨_, rfl⟩⟩
      · obtain ⟨o, e, m5⟩ := h.ok x hx
        exact ⟨o, k x o (by simp [ea, eb, eo]) e, m5⟩
abbrev s_Held_set_own : Stmt := inClass (top 123) 5
theorem sc_Held_set_own : FnScope ["self", "session", "numbers", "tables", "answer"] ["self", "session", "numbers"] (defScope s_Held_set_own) := ⟨rfl, rfl, rfl, by decide +kernel, rfl, by decide +kernel, by decide +kernel⟩
def sp_set_own (ad : Ads) : Sp := fun vs H Q _ => ∃ (a na : Addr) (M : List Addr) (ba oa : Addr) (S : State) (v : Int) (l : List Int), vs = [.ref a, .int v, .ref na] ∧ HeldR ad M H a ba oa S ∧ GSt S ∧ H na = some (.lst (l.map V.int)) ∧ HPost ad H M a ba oa (step S (.set v l)).1 (step S (.set v l)).2 Q
theorem ok_set_own {f : Addr} {fd : FuncData} (T : Tp K mg ad) (c_read_tables : Fc P w K mg base CX0 3 "read_tables" ["schema", "numbers"] (sp_read_tables ad)) (m_Held_judge_tables : Mc P w K mg base CX0 4 ad.Held "judge_tables" ["self", "tables"] (sp_judge_tables ad))
    (F : Fun K "set_own" "Held.set_own" s_Held_set_own f fd) : FnOk P w K mg base CX0 5 f fd ["self", "session", "numbers"] (sp_set_own ad) := by
  refine F.ok sc_Held_set_own (fun vs H Q E h => ?_) (fun cdv A outer s H vs Q E hr h => ⟨_, (pss_cons (ps_if (pt_cmpR op_notIn_seq (pv 1) (pe_cst (by rfl) T.k_SESSIONS) (by rfl)) (pss_one (ps_ret (pe_lst (pa_cons (pe_cst (by rfl) T.k_NO_SESSION) pa_nil)))) pss_nil) (pss_cons (ps_set (i := 3) sc_Held_set_own.nd rfl (.inl rfl) (pe_fc c_read_tables (hr.mono (by decide)) (by rfl) (pa_cons (pe_fl T.cl_Held T.n_Held_schema (pv 0)) (pa_cons (pv 2) pa_nil)))) (pss_cons (ps_set (i := 4) sc_Held_set_own.nd rfl (.inl rfl) (pe_mc (pv 0) T.cl_Held m_Held_judge_tables (hr.mono (by decide)) pass0 (pa_cons (pv 3) pa_nil))) (pss_cons (ps_if (pt_cmpR (op_eqO hr.units) (pv 4) (pe_lst (pa_cons pe_int pa_nil)) (nomark _)) (pss_one (ps_asg (pv 3) (pg_sub (pe_fl T.cl_Held T.n_Held_own (pv 0)) (pv 1) set_list))) pss_nil) (pss_one (ps_ret (pv 4))))))), ?_⟩)
  · obtain ⟨a, na, M, ba, oa, S, v, l, rfl, _⟩ := h
    rfl
  obtain ⟨a, na, M, ba, oa, S, v, l, rfl, hd, g, hna, k⟩ := h
  have hS : SqT K H ad.SESSIONS [V.int 0, V.int 1] := T.t_SESSIONS H
  obtain ⟨dx, sl, sa, b0, b1, o0, o1, h1, h2, h3, h4, h5, h6, h7, h8, h9⟩ := id hd.ex
  have h4' := h4.same msk_same
  have gs := g.gs
  have eA : step S (.set v l) = if !(v == 0 || v == 1) then (S, [-3]) else onGood S l fun d => (withSession S v.toNat { sessionOf S v.toNat with mine := d }, [0]) := rfl
  walk_at "rd"
  refine ifnb (b := inV (.int v) [V.int 0, V.int 1]) (fun c1 => ?_) (fun c1 => ?_)
  · rw [inV_two] at c1
    rw [eA, c1] at k
    walk_at "rd"
    exact HPost.lst k hd (Same.refl _)
  rw [inV_two] at c1
  obtain ⟨n, rfl, hn, hn2⟩ := is_nat c1
  rw [eA, c1, hn] at k
  have k : HPost ad H M a ba oa (onGood S l fun d => (withSession S n { sessionOf S n with mine := d }, [0])).1 (onGood S l fun d => (withSession S n { sessionOf S n with mine := d }, [0])).2 Q := k
  walk_at "rd"
  have h10 : ∀ {H1 : Hp}, Same H H1 → H1 a = some (.ins ad.Held dx (hdF sl S.commits sa ba oa)) := fun s1 => s1 _ _ h1
  refine ⟨fun en H1 s1 => ?_, fun d ed tl H1 s1 ntl hdb => ?_⟩
  · have hd1 := hd.same s1
    have h11 := h10 s1
    have q1 : dbFrom S.schema l = none → V.non = .non := fun _ => rfl
    have q2 : ∀ d, dbFrom S.schema l = some d → ∃ tl, V.non = .ref tl ∧ DbAt H1 tl d ∧ DO S.schema d := fun d e => by rw [en] at e; cases e
    walk_at "rd"
    intro r H2 nr s2 hr2
    have ej : jM S (dbFrom S.schema l) = [-4] := by rw [en]; rfl
    have hne : jM S (dbFrom S.schema l) ≠ [0] := by rw [ej]; decide
    rw [not_good hne] at k
    have od1 : OdR H2 (V.ref r) (.lst (jM S (dbFrom S.schema l))) := ⟨r, rfl, hr2⟩
    walk_at "rd"
    intro z nz
    obtain ⟨s3, hz⟩ := al2 (o := .lst [V.int 0]) nz
    generalize upd H2 z (.lst [V.int 0]) = H3 at s3 hz ⊢
    have od2 : OdR H3 (V.ref r) (.lst (jM S (dbFrom S.schema l))) := od1.same s3
    have od3 : OdR H3 (V.ref z) (.lst [0]) := ⟨z, rfl, hz⟩
    have okk : (match OD.lst (jM S (dbFrom S.schema l)), OD.lst [0] with | .row _, .lst _ => False | .lst _, .row _ => False | _, _ => True) := trivial
    walk_at "rd"
    refine ifd (fun c1 => ?_) (fun c1 => ?_)
    · injection c1 with c1
      exact absurd c1 hne
    · walk_at "rd"
      exact k.ro hd ((s1.trans s2).trans s3) (fresh_of (as := []) (Kp.of_same s1) nr (by simp)) (s3 _ _ hr2)
  · have hd1 := hd.same s1
    have h11 := h10 s1
    have q1 : dbFrom S.schema l = none → V.ref tl = .non := fun e => by rw [ed] at e; cases e
    have q2 : ∀ d, dbFrom S.schema l = some d → ∃ t, V.ref tl = .ref t ∧ DbAt H1 t d ∧ DO S.schema d := fun d' e => by
      rw [ed] at e
      obtain rfl := Option.some.inj e
      exact ⟨tl, rfl, hdb, db_ok ed⟩
    walk_at "rd"
    intro r H2 nr s2 hr2
    have od1 : OdR H2 (V.ref r) (.lst (jM S (dbFrom S.schema l))) := ⟨r, rfl, hr2⟩
    walk_at "rd"
    intro z nz
    obtain ⟨s3, hz⟩ := al2 (o := .lst [V.int 0]) nz
    generalize upd H2 z (.lst [V.int 0]) = H3 at s3 hz ⊢
    have od2 : OdR H3 (V.ref r) (.lst (jM S (dbFrom S.schema l))) := od1.same s3
    have od3 : OdR H3 (V.ref z) (.lst [0]) := ⟨z, rfl, hz⟩
    have okk : (match OD.lst (jM S (dbFrom S.schema l)), OD.lst [0] with | .row _, .lst _ => False | .lst _, .row _ => False | _, _ => True) := trivial
    have s03 := (s1.trans s2).trans s3
    have nrH : H r = none := fresh_of (as := []) (Kp.of_same s1) nr (by simp)
    walk_at "rd"
    refine ifd (fun c1 => ?_) (fun c1 => ?_)
    · have c1 : jM S (dbFrom S.schema l) = [0] := by injection c1
      obtain ⟨d', e1, e2⟩ := is_good (f := fun d => (withSession S n { sessionOf S n with mine := d }, [0])) c1
      rw [e2] at k
      rw [ed] at e1
      obtain rfl := Option.some.inj e1
      have h13 := h10 s03
      have h33 := s03 _ _ h3
      have ixn : ixN [V.ref o0, V.ref o1].length (n : Int) = some n := by rcases hn2 with rfl | rfl <;> rfl
      walk_at "rd"
      have hok3 := hd.ok.same s03
      have tlM : tl ∉ M := hd.ok.fresh ntl
      have hdb3 : DbAt (msk M H3) tl d := (hdb.same (s2.trans s3)).msk (H := H) hok3 tlM
      have ms := msk_kp (M := M) (Kp.of_same s03)
      have roa : r ≠ oa := fun z => by rw [z, h3] at nrH; cases nrH
      have rM : r ∉ M := hd.ok.fresh nrH
      have hr3 := s3 _ _ hr2
      rw [c1] at hr3
      have aoa : a ≠ oa := fun z => by rw [z, h3] at h1; cases h1
      have kk : Kp [a, ba, oa] H3 (upd H3 oa (.lst ([V.ref o0, V.ref o1].set n (.ref tl)))) := Kp.upd (by simp)
      have hh : HeldR ad M (upd H3 oa (.lst ([V.ref o0, V.ref o1].set n (.ref tl)))) a ba oa (withSession S n { sessionOf S n with mine := d }) := by
        rcases hn2 with rfl | rfl
        · exact held_put (S' := withSession S 0 { sessionOf S 0 with mine := d }) (hd.same s03) kk (by rw [upd_ne aoa]; exact h13) (by rw [upd_ne hd.ne]; exact s03 _ _ h2) (o0 := tl) (o1 := o1) upd_same (h4.same ms) (h5.same ms) (h6.same ms) (h7.same ms) hdb3 (h9.same ms)
        · exact held_put (S' := withSession S 1 { sessionOf S 1 with mine := d }) (hd.same s03) kk (by rw [upd_ne aoa]; exact h13) (by rw [upd_ne hd.ne]; exact s03 _ _ h2) (o0 := o0) (o1 := tl) upd_same (h4.same ms) (h5.same ms) (h6.same ms) (h7.same ms) (h8.same ms) hdb3
      exact k r _ M ba oa ⟨(Kp.of_same s03).trans kk, hh, fun _ z => z, fun _ z => .inl z, .inl rfl, .inl rfl⟩ nrH rM (by rw [upd_ne roa]; exact hr3)
    · have hne : jM S (dbFrom S.schema l) ≠ [0] := fun z => c1 (by rw [z])
      rw [not_good hne] at k
      walk_at "rd"
      exact k.ro hd s03 nrH (s3 _ _ hr2)
end Tw
namespace Tw
open PySem PySem.Spec PyProof.Rows L2
open VauowBase (findRow Db tableAt dbData Schema brokenIn dbFrom emptyDb)
open Vauowd (State Session sessionOf withSession step isSession isMode isChoices onGood noBytes toInts)

variable {P : Program} {w : World} {K : PySem.W.Frag} {mg : Str → Option Value} {base : Heap} {ad : Ads}
theorem pe_fcS {X : Cx} {k : Nat} {x : Str} {ps : List Str} {sp : Sp} {E : L2.St → XK} {e : Expr} {es : List Expr} {t : TA} {p pos : Pos} (F : Fc X.prog X.w X.K X.mg X.base (L2.CX X.prog X.w) k x ps sp) (hr : Room k X.A) (hg : Gl X x) (hx : ∀ σ, PassesAt (L2.CX X.prog X.w) X σ (E σ)) (ha : PA X (e :: es) t)
    (hdb : (x == ("__debug__" : Str)) = false := by decide) (he : starEach (e :: es) X.env = (false, eval e X.env) :: starEach es X.env := by rfl) (hpl : (backTo pos (starEach es X.env)).any (·.1) = false := by rfl) :
    PE X (.Call (.Name x p) (e :: es) [] pos) (tCallS sp E t) := by
  obtain ⟨f, fd, h1, h2, h3, h4⟩ := F
  exact pe_callS h4 hr hg h1 h2 h3 hx ha hdb he hpl
theorem call_len_seqN {X : Cx} {K : PySem.W.Frag} (hK : X.K = K := by rfl) : CallR X (.builtin "len") (fun xs H Q => ∃ p ys, xs = [.ref p] ∧ (SqL K H p ys ∨ SqT K H p ys) ∧ Q (.int ys.length) H) := by
  subst hK
  exact call_len_seq
theorem MOk.one {M : List Addr} {H H' : Hp} {a : Addr} (h : MOk ad H M) (k : Kp [a] H H') (e : ∃ o, H' a = some o ∧ Mut5 ad o) : MOk ad H' M := fun x hx => by
  by_cases ea : x = a
  · obtain ⟨o, e, m⟩ := e
    exact ⟨o, by rw [ea]; exact e, m⟩
  · obtain ⟨o, eo, m5⟩ := h x hx
    exact ⟨o, k x o (by simpa using ea) eo, m5⟩
theorem nxt_begun' {M : List Addr} {H H' : Hp} {a ba oa ba' oa' : Addr} {S' : State} (k : Kp [a] H H') (nb0 : H ba' = none) (no0 : H oa' = none) (h : HeldR ad (ba' :: oa' :: M) H' a ba' oa' S') : Nxt ad H M a ba oa H' (ba' :: oa' :: M) ba' oa' S' := by
  refine ⟨k.wider (by simp), h, fun x hx => by simp [hx], fun x hx => ?_, .inr nb0, .inr no0⟩
  rcases List.mem_cons.mp hx with rfl | hx
  · exact .inr nb0
  · rcases List.mem_cons.mp hx with rfl | hx
    · exact .inr no0
    · exact .inl hx
theorem sum_lens (x : Schema) : (x.map fun t => (t.columns.length : Int)).sum = ((x.map fun t => t.columns.length).foldl (fun a b => a + b) 0 : Nat) := by
  have h : ∀ (l : List Nat) (n : Nat), ((n : Int) + (l.map fun n : Nat => (n : Int)).sum) = ((l.foldl (fun a b => a + b) n : Nat) : Int) := fun l => by
    induction l with
    | nil => intro n; show (n : Int) + 0 = n; omega
    | cons a l ih =>
      intro n
      show (n : Int) + ((a : Int) + (l.map fun n : Nat => (n : Int)).sum) = ((l.foldl (fun a b => a + b) (n + a) : Nat) : Int)
      rw [← ih (n + a)]
      omega
  have := h (x.map fun t => t.columns.length) 0
  rw [List.map_map] at this
  rw [← this]
  show _ = 0 + _
  rw [Int.zero_add]; rfl
/-- a schema was read -/
def loaded (x : Schema) : State := { schema := x, store := emptyDb x, one := { base := emptyDb x, mine := emptyDb x }, two := { base := emptyDb x, mine := emptyDb x }, commits := 0 }
abbrev s_Held_load : Stmt := inClass (top 123) 2
theorem sc_Held_load : FnScope ["self", "numbers", "schema", "fault", "number", "table"] ["self", "numbers"] (defScope s_Held_load) := ⟨rfl, rfl, rfl, by decide +kernel, rfl, by decide +kernel, by decide +kernel⟩
def sp_load (ad : Ads) : Sp := fun vs H Q _ => ∃ (a na : Addr) (M : List Addr) (ba oa : Addr) (S : State) (l : List Int), vs = [.ref a, .ref na] ∧ HeldR ad M H a ba oa S ∧ GSt S ∧ H na = some (.lst (l.map V.int)) ∧ l.length ≤ 5000 ∧ HPost ad H M a ba oa (step S (.load l)).1 (step S (.load l)).2 Q
theorem ok_load {f : Addr} {fd : FuncData} (T : Tp K mg ad) (XF : XfC K ad.FirstFault) (xm : PySem.W.exmOne K (.ref ad.FirstFault) (.ref ad.FirstFault) = some true)
    (c_read_schema : Fc P w K mg base (L2.CX P w) 9 "read_schema" ["numbers"] (sp_read_schema ad))
    (m_Held_begin_with : Mc P w K mg base CX0 1 ad.Held "begin_with" ["self", "tables"] (sp_begin_with ad))
    (F : Fun K "load" "Held.load" s_Held_load f fd) : FnOk P w K mg base CX0 10 f fd ["self", "numbers"] (sp_load ad) := by
  refine F.ok sc_Held_load (fun vs H Q E h => ?_) (fun cdv A outer s H vs Q E hr h => ⟨_, (pss_cons (ps_if (pt_val (pe_callB (cr_any rfl) (by rfl) T.b_any (by decide +kernel) (pa_cons (pe_lc (own := [("number", 4)]) (g := gName 4) (tt := tYes) rfl sc_Held_load.nd (pi_list (pv 1)) (blkOk_by (N := ["self", "numbers", "schema", "fault", "number", "table"]) (sc := defScope s_Held_load) (by decide +kernel)) (fun _ _ _ _ _ => pg_name (i := 4) sc_Held_load.nd rfl (Or.inl rfl)) (fun _ _ _ _ _ => pts_nil) (fun _ _ _ _ _ => (pe_or (pe_cmpR op_lt (pv 4) pe_int (nomark _)) (pe_one (pe_cmpR op_gt (pv 4) (pe_cst (by rfl) T.k_GREATEST_BYTE) (nomark _)))))) pa_nil))) (pss_one (ps_ret (pe_lst (pa_cons (pe_cst (by rfl) T.k_NO_BYTE) pa_nil)))) pss_nil) (pss_cons (ps_if (pt_cmpR op_gt (pe_callB call_len_seq (by rfl) T.b_len (by decide +kernel) (pa_cons (pv 1) pa_nil)) (pe_cst (by rfl) T.k_LONGEST_TEXT) (nomark _)) (pss_one (ps_ret (pe_lst (pa_cons (pe_cst (by rfl) T.k_TOO_LONG) pa_nil)))) pss_nil) (pss_cons (ps_try_as (i := 3) (tb := fun W => tAsg (tCallS (sp_read_schema ad) (WE W) (tCons (tVar 1) tNil)) (gName 2)) (ts := fun a cls d => tRet (tLst (tCons (tC (.int 1)) (tCons (tXf a cls d ad.FirstFault "kind" (tVar 3)) (tCons (tXf a cls d ad.FirstFault "place" (tVar 3)) tNil))))) (Wout := fun _ _ _ _ => False) rfl rfl sc_Held_load.nd rfl rfl ⟨rfl, by decide, Or.inl T.g_FirstFault⟩ takes0 (fun W pn xe tk _ => pss_one (ps_set (i := 2) sc_Held_load.nd rfl (.inl rfl) (pe_fcS c_read_schema (hr.mono (by decide)) (by rfl) (fun σ => passAt tk σ) (by exact (pa_cons (pv 1) pa_nil))))) (fun a oe cls d pn hz hf => pss_one (ps_ret (by exact (pe_lst (pa_cons pe_int (pa_cons (pe_xf XF T.n_FirstFault_kind hz hf (pv 3)) (pa_cons (pe_xf XF T.n_FirstFault_place hz hf (pv 3)) pa_nil)))))))) (pss_cons (ps_fl T.cl_Held T.n_Held_schema (pv 0) (pv 2)) (pss_cons (ps_expr (pe_mc (pv 0) T.cl_Held m_Held_begin_with (hr.mono (by decide)) pass0 (pa_cons (pe_lc (own := [("table", 5)]) (g := gName 5) (tt := tYes) rfl sc_Held_load.nd (pi_list (pv 2)) (blkOk_by (N := ["self", "numbers", "schema", "fault", "number", "table"]) (sc := defScope s_Held_load) (by decide +kernel)) (fun _ _ _ _ _ => pg_name (i := 5) sc_Held_load.nd rfl (Or.inl rfl)) (fun _ _ _ _ _ => pts_nil) (fun _ _ _ _ _ => pe_dnewK)) pa_nil))) (pss_one (ps_ret (pe_lst (pa_cons pe_int (pa_cons (pe_callB call_len_seq (by rfl) T.b_len (by decide +kernel) (pa_cons (pv 2) pa_nil)) (pa_cons (pe_callB (cr_sum rfl) (by rfl) T.b_sum (by decide +kernel) (pa_cons (pe_lc (own := [("table", 5)]) (g := gName 5) (tt := tYes) rfl sc_Held_load.nd (pi_list (pv 2)) (blkOk_by (N := ["self", "numbers", "schema", "fault", "number", "table"]) (sc := defScope s_Held_load) (by decide +kernel)) (fun _ _ _ _ _ => pg_name (i := 5) sc_Held_load.nd rfl (Or.inl rfl)) (fun _ _ _ _ _ => pts_nil) (fun _ _ _ _ _ => (pe_callB (call_len_seqN (K := K)) (by rfl) T.b_len (by decide +kernel) (pa_cons (pe_fl T.cl_Table T.n_Table_columns (pv 5)) pa_nil)))) pa_nil)) pa_nil))))))))))), ?_⟩)
  · obtain ⟨a, na, M, ba, oa, S, l, rfl, _⟩ := h
    rfl
  obtain ⟨a, na, M, ba, oa, S, l, rfl, hd, g, hna, hlen, k⟩ := h
  obtain ⟨dx, sl, sa, b0, b1, o0, o1, h1, _, _, h4, _⟩ := id hd.ex
  have eA : step S (.load l) = if noBytes l then (S, [-1]) else if VauowBase.TEXT < l.length then (S, [-2]) else (match VauowBase.readSchema (l.map Int.toNat) with
    | .error f => (S, toInts [1, f.1, f.2])
    | .ok x => (loaded x, 0 :: toInts [x.length, (x.map fun t => t.columns.length).foldl (fun a b => a + b) 0])) := rfl
  rw [eA] at k
  clear eA
  have isB : ∀ z : Int, (decide (z < 0) || decide (255 < z)) = (decide (z < 0) || decide (255 < z)) := fun _ => rfl
  walk_at "rd"
  refine ⟨⟨_, SqL.of hna⟩, fun D hD => ?_⟩
  have nD : ∀ {b : Addr} {u : HO}, H b = some u → b ≠ D := fun e => ne_of_none e hD
  refine lc_it walk_list (fun i H' => Nx (Same H H' ∧ H' D = some (.lst ((l.take i).map fun z => V.bl (decide (z < 0) || decide (255 < z)))))) ⟨⟨fun b u e => by rw [upd_ne (nD e)]; exact e, upd_same⟩⟩ (fun i H' _ q => SqL.of (q.h.1 _ _ hna)) ?_ ?_
  · rintro i v H2 H2' hi ⟨s2, h2⟩ ⟨rfl, hv⟩
    obtain ⟨z, hz, rfl⟩ := map_get hv
    have hl2 : ((l.take i).map fun z => V.bl (decide (z < 0) || decide (255 < z))).length ≤ 5000 := by rw [List.length_map]; exact Nat.le_trans (List.length_take_le' ..) hlen
    have fin : ∀ c : Bool, (decide (z < 0) || decide (255 < z)) = c → Nx (Same H (upd H2' D (.lst ((l.take i).map (fun z => V.bl (decide (z < 0) || decide (255 < z))) ++ [V.bl c]))) ∧ upd H2' D (.lst ((l.take i).map (fun z => V.bl (decide (z < 0) || decide (255 < z))) ++ [V.bl c])) D = some (.lst ((l.take (i + 1)).map fun z => V.bl (decide (z < 0) || decide (255 < z))))) := fun c e => by
      refine ⟨fun b u e => by rw [upd_ne (nD e)]; exact s2 b u e, ?_⟩
      rw [take_more hz, List.map_append]
      exact upd_same.trans (congrArg (fun b => some (HO.lst ((l.take i).map (fun z => V.bl (decide (z < 0) || decide (255 < z))) ++ [V.bl b]))) e.symm)
    walk_at "rd"
    refine ifd (fun c1 => ?_) (fun c1 => ?_)
    · walk_at "rd"
      exact fin true (by rw [decide_eq_true c1]; rfl)
    · walk_at "rd"
      exact fin (decide (255 < z)) (by rw [decide_eq_false c1]; rfl)
  · rintro H2 ⟨s2, h2⟩
    rw [List.length_map, List.take_length] at h2
    have eN : (l.map fun z => decide (z < 0) || decide (255 < z)).any id = noBytes l := by
      rw [List.any_map]; rfl
    refine ⟨D, l.map fun z => decide (z < 0) || decide (255 < z), rfl, SqL.of (h2.trans (by rw [List.map_map]; rfl)), ?_⟩
    have hna2 := s2 _ _ hna
    have hd2 := hd.same s2
    walk_at "rd"
    rw [eN]
    refine ifb (fun c1 => ?_) (fun c1 => ?_)
    · rw [c1] at k
      walk_at "rd"
      exact HPost.lst k hd s2
    rw [c1] at k
    walk_at "rd"
    rw [List.length_map]
    have k : HPost ad H M a ba oa (if VauowBase.TEXT < l.length then (S, [-2]) else (match VauowBase.readSchema (l.map Int.toNat) with
      | .error f => (S, toInts [1, f.1, f.2])
      | .ok x => (loaded x, 0 :: toInts [x.length, (x.map fun t : VauowBase.Table => t.columns.length).foldl (fun a b => a + b) 0]))).1 (if VauowBase.TEXT < l.length then (S, [-2]) else (match VauowBase.readSchema (l.map Int.toNat) with
      | .error f => (S, toInts [1, f.1, f.2])
      | .ok x => (loaded x, 0 :: toInts [x.length, (x.map fun t : VauowBase.Table => t.columns.length).foldl (fun a b => a + b) 0]))).2 Q := k
    have eT : (VauowBase.TEXT < l.length) = (4096 < l.length) := rfl
    refine ifd (fun c2 => ?_) (fun c2 => ?_)
    · rw [if_pos (by rw [eT]; omega)] at k
      walk_at "rd"
      exact HPost.lst k hd s2
    rw [if_neg (by rw [eT]; omega)] at k
    have el : l.map V.int = (bI (l.map Int.toNat)).map V.int := by
      unfold bI
      rw [List.map_map, List.map_map]
      refine List.map_congr_left fun z hz => ?_
      have hz0 : ¬ z < 0 := fun zz => by
        have : noBytes l = true := List.any_eq_true.mpr ⟨z, hz, by rw [decide_eq_true zz]; rfl⟩
        rw [c1] at this; cases this
      show V.int z = V.int (Int.ofNat z.toNat)
      congr 1
      show z = (z.toNat : Int)
      omega
    rw [el] at hna2
    have hlb : (l.map Int.toNat).length ≤ 5000 := by rw [List.length_map]; exact hlen
    have k : HPost ad H M a ba oa (match VauowBase.readSchema (l.map Int.toNat) with
      | .error f => (S, toInts [1, f.1, f.2])
      | .ok x => (loaded x, 0 :: toInts [x.length, (x.map fun t : VauowBase.Table => t.columns.length).foldl (fun a b => a + b) 0])).1 (match VauowBase.readSchema (l.map Int.toNat) with
      | .error f => (S, toInts [1, f.1, f.2])
      | .ok x => (loaded x, 0 :: toInts [x.length, (x.map fun t : VauowBase.Table => t.columns.length).foldl (fun a b => a + b) 0])).2 Q := k
    have h12 := s2 _ _ h1
    clear hna h2 el
    walk_at "rd"
    refine ⟨fun x ex sl' H3 s3 hsn nsl => ?_, fun f2 ef d H3 k3 hd3 => ?_⟩
    · rw [ex] at k
      have k : HPost ad H M a ba oa (loaded x) (0 :: toInts [x.length, (x.map fun t => t.columns.length).foldl (fun a b => a + b) 0]) Q := k
      have gx := (schema_ok ex)
      have h13 := s3 _ _ h12
      have lf : (hdF sl S.commits sa ba oa).length < 1000 := by show 5 < 1000; omega
      walk_at "rd"
      intro H4 u4
      have ra : sl' ≠ a := fun z => by rw [z, h12] at nsl; cases nsl
      have k4 : Kp [a] H H4 := (Kp.of_same (s2.trans s3)).trans (by rw [u4]; exact Kp.upd (by simp))
      have k34 : Kp [a] H3 H4 := by rw [u4]; exact Kp.upd (by simp)
      have h14 : H4 a = some (.ins ad.Held dx (hdF sl' S.commits sa ba oa)) := by rw [u4, upd_same]; rfl
      obtain ⟨tas, htas, ptas⟩ := hsn.ex
      have htas4 : H4 sl' = some (.lst (tas.map V.ref)) := by rw [u4, upd_ne ra]; exact htas
      have hok3 : MOk ad H3 M := hd.ok.same (s2.trans s3)
      have nslH : H sl' = none := fresh_of (as := []) (Kp.of_same s2) nsl (by simp)
      have hsm3 : SchAt ad (msk M H3) sl' x := hsn.msk hok3 (hd.ok.fresh nslH) (fun c nc => hd.ok.fresh (fresh_of (as := []) (Kp.of_same s2) nc (by simp)))
      have hok4 : MOk ad H4 M := hok3.one k34 ⟨_, h14, .inr ⟨_, _, rfl, rfl⟩⟩
      have hsm4 : SchAt ad (msk M H4) sl' x := hsm3.same (msk_kp (k34.wider (by simpa using hd.ma)))
      have hlt := Paired.length ptas
      clear u4 hsm3 ptas htas
      walk_at "rd"
      refine ⟨⟨_, SqL.of htas4⟩, fun D2 hD2 => ?_⟩
      refine lc_it walk_list (fun i H' => Nx (∃ das : List Addr, Same H4 H' ∧ H' D2 = some (.lst (das.map V.ref)) ∧ Paired (TabD H') das ((x.take i).map fun _ => []))) ⟨[], fun b u e => by rw [upd_ne (ne_of_none e hD2)]; exact e, upd_same, .nil⟩ (fun i H' _ q => by obtain ⟨_, s', _⟩ := q.h; exact SqL.of (s' _ _ htas4)) ?_ ?_
      · rintro i v H5 H5' hi ⟨das, s5, h5, p5⟩ ⟨rfl, hv⟩
        rw [List.length_map] at hi
        have hlx := gx.len
        have dl : das.length ≤ 10 := by
          rw [Paired.length p5, List.length_map]; exact Nat.le_trans (List.length_take_le' ..) (Nat.le_trans hlx (by decide))
        have dl' : (das.map V.ref).length ≤ 10 := by rw [List.length_map]; exact dl
        have hix : i < x.length := by omega
        walk_at "rd"
        intro p np
        obtain ⟨s6, hp6⟩ := al2 (o := .dK []) np
        generalize upd H5' p (.dK []) = H6 at s6 hp6 ⊢
        have h6 := s6 _ _ h5
        walk_at "rd"
        have nD4 : ∀ {b : Addr} {u : HO}, H4 b = some u → b ≠ D2 := fun e => ne_of_none e hD2
        have dD : ∀ {b : Addr} {ks : List (Key × V)}, H6 b = some (.dK ks) → b ≠ D2 := fun e z => by rw [z, h6] at e; cases e
        refine ⟨⟨das ++ [p], fun b u e => by rw [upd_ne (nD4 e)]; exact s6 _ _ (s5 _ _ e), by rw [upd_same, List.map_append]; rfl, ?_⟩⟩
        rw [List.take_add_one, List.getElem?_eq_getElem hix, List.map_append]
        refine Paired.snoc (Paired.mono (fun da rs t => ?_) p5) ⟨[], by rw [upd_ne (dD hp6)]; exact hp6, .nil⟩
        obtain ⟨kvs, e2, p2⟩ := t.ex
        have e2' := s6 _ _ e2
        refine ⟨kvs, by rw [upd_ne (dD e2')]; exact e2', Paired.mono (fun kv r ⟨ra, e3, e4⟩ => ⟨ra, e3, ?_⟩) p2⟩
        have e4' := s6 _ _ e4
        have : ra ≠ D2 := fun z => by rw [z, h6] at e4'; cases e4'
        rw [upd_ne this]; exact e4'
      · rintro H5 ⟨das, s5, h5, p5⟩
        rw [List.length_map, hlt, List.take_length] at p5
        have hdb5 : DbAt H5 D2 (emptyDb x) := ⟨das, h5, p5⟩
        have h15 := s5 _ _ h14
        have htas5 := s5 _ _ htas4
        have lf5 : (hdF sl' S.commits sa ba oa).length ≤ 5 := Nat.le_refl 5
        have hf : ∀ t y z : Addr, putF "own" (.ref z) (putF "began" (.ref y) (putF "store" (.ref t) (putF "commits" (.int 0) (hdF sl' S.commits sa ba oa)))) = hdF sl' 0 t y z := fun _ _ _ => rfl
        walk_at "rd"
        intro H6 ba' oa' k6 h16 nb no bo hb6 ho6
        have hok5 : MOk ad H5 M := hok4.same s5
        have k5 : Kp [a] H H5 := k4.trans (Kp.of_same s5)
        have nD2H : H D2 = none := fresh_of k4 hD2 (by intro y hy e; rw [List.mem_singleton.mp hy, h14] at e; cases e)
        have nH5 : ∀ {b : Addr}, H5 b = none → H b = none := fun {b} e => fresh_of k5 e (by intro y hy e; rw [List.mem_singleton.mp hy, h15] at e; cases e)
        have hh := held_begun (S := loaded x) (b0 := b0) (o0 := o0) hok5 hd.ma ⟨_, h15⟩ k6 h16 nb no bo hb6 ho6 (hsm4.same (msk_kp (Kp.of_same s5))) (hdb5.msk (H := H) hok5 (hd.ok.fresh nD2H)) rfl
        have hN : Nxt ad H M a ba oa H6 (ba' :: oa' :: M) ba' oa' (loaded x) := nxt_begun' (k5.trans k6) (nH5 nb) (nH5 no) hh
        have htas6 := k6 _ _ (by simpa using ra) htas5
        have hs6 : SchAt ad H6 sl' x := (hsm4.same (msk_kp ((Kp.of_same s5).trans (k6.wider (by simpa using hd.ma))))).same msk_same
        obtain ⟨tas', htas', pt6⟩ := hs6.ex
        obtain rfl : tas = tas' := by
          rw [htas6] at htas'
          have := Option.some.inj htas'
          injection this with this
          exact (List.map_inj_right (fun _ _ z => by injection z)).mp this
        clear htas'
        walk_at "rd"
        refine ⟨⟨_, SqL.of htas6⟩, fun D3 hD3 => ?_⟩
        have nD : ∀ {b : Addr} {u : HO}, H6 b = some u → b ≠ D3 := fun e => ne_of_none e hD3
        refine lc_it walk_list (fun i H' => Nx (Same H6 H' ∧ H' D3 = some (.lst ((x.take i).map fun t => V.int (t.columns.length : Nat))))) ⟨fun b u e => by rw [upd_ne (nD e)]; exact e, upd_same⟩ (fun i H' _ q => SqL.of (q.h.1 _ _ htas6)) ?_ ?_
        · rintro i v H7 H7' hi ⟨s7, h7⟩ ⟨rfl, hv⟩
          obtain ⟨ta, hta, rfl⟩ := map_get hv
          obtain ⟨t, ht, dt, cl, cas, hto, hcl, hcs⟩ := paired_get' pt6 hta
          have hto7 := s7 _ _ hto
          have hcl7 := s7 _ _ hcl
          have hcl4 := Paired.length hcs
          have ll : ((x.take i).map fun t => V.int (t.columns.length : Nat)).length ≤ 10 := by
            rw [List.length_map]; exact Nat.le_trans (List.length_take_le' ..) (Nat.le_trans gx.len (by decide))
          walk_at "rd"
          refine ⟨⟨fun b u e => by rw [upd_ne (nD e)]; exact s7 b u e, ?_⟩⟩
          rw [take_more ht, List.map_append]
          refine upd_same.trans (congrArg (fun b => some (HO.lst ((x.take i).map (fun t => V.int (t.columns.length : Nat)) ++ [V.int b]))) ?_)
          rw [List.length_map, hcl4]
        · rintro H7 ⟨s7, h7⟩
          rw [List.length_map, hlt, List.take_length] at h7
          have h7' : H7 D3 = some (.lst ((x.map fun t => (t.columns.length : Int)).map V.int)) := by rw [h7, List.map_map]; rfl
          walk_at "rd"
          intro r nr
          have rA : H r = none := fresh_of (k5.trans (k6.trans (Kp.of_same s7 (as := [a])))) nr (by
            intro y hy e
            rw [List.mem_singleton.mp hy, s7 _ _ h16] at e; cases e)
          obtain ⟨s8, hr8⟩ := al2 (o := .lst [V.int 0, V.int (tas.map V.ref).length, V.int (x.map fun t => (t.columns.length : Int)).sum]) nr
          generalize upd H7 r (.lst [V.int 0, V.int (tas.map V.ref).length, V.int (x.map fun t => (t.columns.length : Int)).sum]) = H8 at s8 hr8 ⊢
          have hh8 := hh.same (s7.trans s8)
          have hN8 : Nxt ad H M a ba oa H8 (ba' :: oa' :: M) ba' oa' (loaded x) := nxt_begun' ((k5.trans k6).trans (Kp.of_same (s7.trans s8))) (nH5 nb) (nH5 no) hh8
          refine k r H8 (ba' :: oa' :: M) ba' oa' hN8 rA (fun m => ?_) ?_
          · rcases List.mem_cons.mp m with z | m
            · rw [z, s7 _ _ hb6] at nr; cases nr
            · rcases List.mem_cons.mp m with z | m
              · rw [z, s7 _ _ ho6] at nr; cases nr
              · exact hd.ok.fresh rA m
          · rw [hr8, List.length_map, hlt, sum_lens]; rfl
    · rw [ef] at k
      have k : HPost ad H M a ba oa S (toInts [1, f2.1, f2.2]) Q := k
      have s3 : Same H2 H3 := fun b u e => k3 b u (by simp) e
      refine ⟨true, xm, fun _ xa nxa => ?_, fun q => Bool.noConfusion q⟩
      have hd4 : H3 d = some (.xd [("place", .int f2.2), ("kind", .int f2.1)]) := hd3
      walk_at "rd"
      exact HPost.lst k hd (s2.trans s3)
end Tw
namespace Tw
open PySem PySem.Spec PyProof.Rows L2
open VauowBase (findRow Db tableAt dbData Schema brokenIn dbFrom emptyDb writeSchema)
open Vauowd (State Session sessionOf withSession step isSession isMode isChoices onGood noBytes toInts)

variable {P : Program} {w : World} {K : PySem.W.Frag} {mg : Str → Option Value} {base : Heap} {ad : Ads}
theorem dbData_len {sch : Schema} {d : Db} (gs : GS sch) (h : DO sch d) : (dbData d).length ≤ 1000 := by
  rw [dbData_eq]
  have := flat_len (f := tabD) (c := 41) (l := d) fun rs hr => by
    obtain ⟨t, ht⟩ := List.getElem?_of_mem hr
    obtain ⟨htl, _⟩ := List.getElem?_eq_some_iff.mp ht
    rw [h.len] at htl
    have hs : sch[t]? = some (sch[t]'htl) := List.getElem?_eq_getElem htl
    exact tabD_len (h.tabs t rs _ ht hs) (gs.tabs _ (List.mem_of_getElem? hs)).len
  have h1 := h.len
  have h2 := gs.len
  omega
abbrev s_Held_written : Stmt := inClass (top 123) 3
theorem sc_Held_written : FnScope ["self", "character"] ["self"] (defScope s_Held_written) := ⟨rfl, rfl, rfl, by decide +kernel, rfl, by decide +kernel, by decide +kernel⟩
def sp_written (ad : Ads) : Sp := fun vs H Q _ => ∃ (a : Addr) (M : List Addr) (ba oa : Addr) (S : State), vs = [.ref a] ∧ HeldR ad M H a ba oa S ∧ GSt S ∧ HPost ad H M a ba oa S (0 :: toInts (writeSchema S.schema)) Q
theorem ok_written {f : Addr} {fd : FuncData} (T : Tp K mg ad) (c_schema_text : Fc P w K mg base CX0 3 "schema_text" ["schema"] (sp_schema_text ad))
    (F : Fun K "written" "Held.written" s_Held_written f fd) : FnOk P w K mg base CX0 4 f fd ["self"] (sp_written ad) := by
  refine F.ok sc_Held_written (fun vs H Q E h => ?_) (fun cdv A outer s H vs Q E hr h => ⟨_, (pss_one (ps_ret (pe_op op_cat (pe_lst (pa_cons pe_int pa_nil)) (pe_lc (own := [("character", 1)]) (g := gName 1) (tt := tYes) rfl sc_Held_written.nd (pi_str (pe_fc c_schema_text (hr.mono (by decide)) (by rfl) (pa_cons (pe_fl T.cl_Held T.n_Held_schema (pv 0)) pa_nil))) (blkOk_by (N := ["self", "character"]) (sc := defScope s_Held_written) (by decide +kernel)) (fun _ _ _ _ _ => pg_name (i := 1) sc_Held_written.nd rfl (Or.inl rfl)) (fun _ _ _ _ _ => pts_nil) (fun _ _ _ _ _ => (pe_callB call_ord (by rfl) T.b_ord (by decide +kernel) (pa_cons (pv 1) pa_nil))))))), ?_⟩)
  · obtain ⟨a, M, ba, oa, S, rfl, _⟩ := h
    rfl
  obtain ⟨a, M, ba, oa, S, rfl, hd, g, k⟩ := h
  obtain ⟨dx, sl, sa, b0, b1, o0, o1, h1, _, _, h4, _⟩ := id hd.ex
  have h4' := h4.same msk_same
  have gs := g.gs
  walk_at "rd"
  intro z nz
  obtain ⟨s1, hz⟩ := al2 (o := .lst [V.int 0]) nz
  generalize upd H z (.lst [V.int 0]) = H1 at s1 hz ⊢
  have h11 := s1 _ _ h1
  have h41 := h4'.same s1
  walk_at "rd"
  intro H2 s2 hl
  walk_at "rd"
  show ∀ D, H2 D = none → _
  intro D hD
  have nD : ∀ {b : Addr} {u : HO}, H2 b = some u → b ≠ D := fun e => ne_of_none e hD
  have sz : (Tw.T (writeSchema S.schema)).cps.size = (writeSchema S.schema).length := rfl
  refine lc_it walk_str (fun i H' => Nx (Same H2 H' ∧ H' D = some (.lst (((writeSchema S.schema).take i).map fun n : Nat => V.int (n : Int))))) ⟨fun b u e => by rw [upd_ne (nD e)]; exact e, upd_same⟩ (fun _ _ _ _ => trivial) ?_ ?_
  · rintro i v H3 H3' hi ⟨s3, h3⟩ ⟨rfl, c, hc, rfl⟩
    have hc : (writeSchema S.schema)[i]? = some c := by
      have : (writeSchema S.schema).toArray[i]? = some c := hc
      simpa using this
    have hl2 : (((writeSchema S.schema).take i).map fun n : Nat => V.int (n : Int)).length ≤ 2000 := by rw [List.length_map]; exact Nat.le_trans (List.length_take_le' ..) hl
    walk_at "rd"
    refine ⟨⟨fun b u e => by rw [upd_ne (nD e)]; exact s3 b u e, ?_⟩⟩
    rw [take_more hc, List.map_append]
    exact upd_same
  · rintro H3 ⟨s3, h3⟩
    rw [sz, List.take_length] at h3
    have hz3 := s3 _ _ (s2 _ _ hz)
    have ll : [V.int 0].length + ((writeSchema S.schema).map fun n : Nat => V.int (n : Int)).length ≤ sizeLine := Nat.le_trans (by rw [List.length_map]; show 1 + _ ≤ 2001; omega) (by decide : 2001 ≤ sizeLine)
    walk_at "rd"
    have s13 := s1.trans (s2.trans s3)
    have e0 : [V.int 0] ++ ((writeSchema S.schema).map fun n : Nat => V.int (n : Int)) = (0 :: toInts (writeSchema S.schema)).map V.int := by
      show V.int 0 :: _ = V.int 0 :: _
      unfold toInts
      rw [List.map_map]; rfl
    rw [e0]
    exact HPost.lst k hd s13
abbrev s_Held_tables : Stmt := inClass (top 123) 15
theorem sc_Held_tables : FnScope ["self", "side"] ["self", "side"] (defScope s_Held_tables) := ⟨rfl, rfl, rfl, by decide +kernel, rfl, by decide +kernel, by decide +kernel⟩
def sp_tables (ad : Ads) : Sp := fun vs H Q _ => ∃ (a : Addr) (M : List Addr) (ba oa : Addr) (S : State) (v : Int), vs = [.ref a, .int v] ∧ HeldR ad M H a ba oa S ∧ GSt S ∧ HPost ad H M a ba oa S (if v = 2 then 0 :: dbData S.store else if isSession v then 0 :: dbData (sessionOf S v.toNat).base ++ dbData (sessionOf S v.toNat).mine else [-3]) Q
theorem ok_tables {f : Addr} {fd : FuncData} (T : Tp K mg ad) (c_numbers_of : Fc P w K mg base CX0 1 "numbers_of" ["tables"] sp_numbers_of)
    (F : Fun K "tables" "Held.tables" s_Held_tables f fd) : FnOk P w K mg base CX0 2 f fd ["self", "side"] (sp_tables ad) := by
  refine F.ok sc_Held_tables (fun vs H Q E h => ?_) (fun cdv A outer s H vs Q E hr h => ⟨_, (pss_cons (ps_if (pt_cmpR op_eq (pv 1) (pe_cst (by rfl) T.k_STORE) (nomark _)) (pss_one (ps_ret (pe_op op_cat (pe_lst (pa_cons pe_int pa_nil)) (pe_fc c_numbers_of (hr.mono (by decide)) (by rfl) (pa_cons (pe_fl T.cl_Held T.n_Held_store (pv 0)) pa_nil))))) pss_nil) (pss_cons (ps_if (pt_cmpR op_notIn_seq (pv 1) (pe_cst (by rfl) T.k_SESSIONS) (by rfl)) (pss_one (ps_ret (pe_lst (pa_cons (pe_cst (by rfl) T.k_NO_SESSION) pa_nil)))) pss_nil) (pss_one (ps_ret (pe_op op_cat (pe_op op_cat (pe_lst (pa_cons pe_int pa_nil)) (pe_fc c_numbers_of (hr.mono (by decide)) (by rfl) (pa_cons (pe_ix ix_list (pe_fl T.cl_Held T.n_Held_began (pv 0)) (pv 1) (fun _ _ => rfl)) pa_nil))) (pe_fc c_numbers_of (hr.mono (by decide)) (by rfl) (pa_cons (pe_ix ix_list (pe_fl T.cl_Held T.n_Held_own (pv 0)) (pv 1) (fun _ _ => rfl)) pa_nil))))))), ?_⟩)
  · obtain ⟨a, M, ba, oa, S, v, rfl, _⟩ := h
    rfl
  obtain ⟨a, M, ba, oa, S, v, rfl, hd, g, k⟩ := h
  have hS : SqT K H ad.SESSIONS [V.int 0, V.int 1] := T.t_SESSIONS H
  have dbl : ∀ {d : Db}, DO S.schema d → (dbData d).length ≤ 1000 := fun {d} h => dbData_len g.gs h
  obtain ⟨dx, sl, sa, b0, b1, o0, o1, h1, h2, h3, h4, h5, h6, h7, h8, h9⟩ := id hd.ex
  have h5' := h5.same msk_same
  have gs := g.gs
  have gst := g.st
  walk_at "rd"
  refine ifd (fun c1 => ?_) (fun c1 => ?_)
  · have c1 : v = 2 := by injection c1
    rw [if_pos c1] at k
    walk_at "rd"
    intro z nz
    obtain ⟨s1, hz⟩ := al2 (o := .lst [V.int 0]) nz
    generalize upd H z (.lst [V.int 0]) = H1 at s1 hz ⊢
    have h11 := s1 _ _ h1
    have h51 := h5'.same s1
    walk_at "rd"
    intro q H2 nq s2 hq
    have hz2 := s2 _ _ hz
    have ll : [V.int 0].length + ((dbData S.store).map V.int).length ≤ sizeLine := Nat.le_trans (by rw [List.length_map]; have := dbl gst; show 1 + _ ≤ 2001; omega) (by decide : 2001 ≤ sizeLine)
    walk_at "rd"
    exact HPost.lst k hd (s1.trans s2)
  have c1 : ¬ v = 2 := fun z => c1 (by rw [z])
  rw [if_neg c1] at k
  walk_at "rd"
  refine ifnb (b := inV (.int v) [V.int 0, V.int 1]) (fun c2 => ?_) (fun c2 => ?_)
  · rw [inV_two] at c2
    rw [show isSession v = false from c2] at k
    walk_at "rd"
    exact HPost.lst k hd (Same.refl _)
  rw [inV_two] at c2
  rw [show isSession v = true from c2] at k
  obtain ⟨n, rfl, hn, hn2⟩ := is_nat c2
  rw [hn] at k
  have k : HPost ad H M a ba oa S (0 :: dbData (sessionOf S n).base ++ dbData (sessionOf S n).mine) Q := k
  obtain ⟨dx', sl', sa', bas, oas, bw, ow, f1, f2, f3, f4, f5, f6, f7, f8, f9⟩ := (hd.side hn2).ex
  clear h1 h2 h3 h4 h5 h6 h7 h8 h9
  have g2 := g.bs (w := n)
  have g3 := g.mn (w := n)
  walk_at "rd"
  intro z nz
  obtain ⟨s1, hz⟩ := al2 (o := .lst [V.int 0]) nz
  generalize upd H z (.lst [V.int 0]) = H1 at s1 hz ⊢
  have f11 := s1 _ _ f1
  have f21 := s1 _ _ f2
  have f81 := f8.same s1
  walk_at "rd"
  intro q H2 nq s2 hq
  have hz2 := s2 _ _ hz
  have l1 : [V.int 0].length + ((dbData (sessionOf S n).base).map V.int).length ≤ sizeLine := Nat.le_trans (by rw [List.length_map]; have := dbl g2; show 1 + _ ≤ 2001; omega) (by decide : 2001 ≤ sizeLine)
  walk_at "rd"
  intro z2 nz2
  obtain ⟨s3, hz3⟩ := al2 (o := .lst ([V.int 0] ++ (dbData (sessionOf S n).base).map V.int)) nz2
  generalize upd H2 z2 (.lst ([V.int 0] ++ (dbData (sessionOf S n).base).map V.int)) = H3 at s3 hz3 ⊢
  have s13 := s1.trans (s2.trans s3)
  have f13 := s13 _ _ f1
  have f33 := s13 _ _ f3
  have f93 := f9.same s13
  walk_at "rd"
  intro q2 H4 nq2 s4 hq2
  have hz4 := s4 _ _ hz3
  have l3 : ([V.int 0] ++ (dbData (sessionOf S n).base).map V.int).length + ((dbData (sessionOf S n).mine).map V.int).length ≤ sizeLine := Nat.le_trans (by rw [List.length_append, List.length_map, List.length_map]; have := dbl g2; have := dbl g3; show 1 + _ + _ ≤ 2001; omega) (by decide : 2001 ≤ sizeLine)
  walk_at "rd"
  have e0 : ([V.int 0] ++ (dbData (sessionOf S n).base).map V.int) ++ (dbData (sessionOf S n).mine).map V.int = (0 :: dbData (sessionOf S n).base ++ dbData (sessionOf S n).mine).map V.int := by
    rw [List.map_append]; rfl
  rw [e0]
  exact HPost.lst k hd (s13.trans s4)
abbrev s_Held_size : Stmt := inClass (top 123) 19
theorem sc_Held_size : FnScope ["self", "session"] ["self"] (defScope s_Held_size) := ⟨rfl, rfl, rfl, by decide +kernel, rfl, by decide +kernel, by decide +kernel⟩
def sp_size (ad : Ads) : Sp := fun vs H Q _ => ∃ (a : Addr) (M : List Addr) (ba oa : Addr) (S : State), vs = [.ref a] ∧ HeldR ad M H a ba oa S ∧ GSt S ∧ HPost ad H M a ba oa S (step S .size).2 Q
theorem ok_size {f : Addr} {fd : FuncData} (T : Tp K mg ad) (m_Held_changed_by : Mc P w K mg base CX0 3 ad.Held "changed_by" ["self", "session"] (sp_changed_by ad))
    (F : Fun K "size" "Held.size" s_Held_size f fd) : FnOk P w K mg base CX0 4 f fd ["self"] (sp_size ad) := by
  refine F.ok sc_Held_size (fun vs H Q E h => ?_) (fun cdv A outer s H vs Q E hr h => ⟨_, (pss_one (ps_ret (pe_op op_cat (pe_lst (pa_cons pe_int (pa_cons (pe_fl T.cl_Held T.n_Held_commits (pv 0)) pa_nil))) (pe_lc (own := [("session", 1)]) (g := gName 1) (tt := tYes) rfl sc_Held_size.nd (pi_tup (pe_cst (by rfl) T.k_SESSIONS)) (blkOk_by (N := ["self", "session"]) (sc := defScope s_Held_size) (by decide +kernel)) (fun _ _ _ _ _ => pg_name (i := 1) sc_Held_size.nd rfl (Or.inl rfl)) (fun _ _ _ _ _ => pts_nil) (fun _ _ _ _ _ => (pe_callB (call_len_seqN (K := K)) (by rfl) T.b_len (by decide +kernel) (pa_cons (pe_mc (pv 0) T.cl_Held m_Held_changed_by (hr.mono (by decide)) pass0 (pa_cons (pv 1) pa_nil)) pa_nil))))))), ?_⟩)
  · obtain ⟨a, M, ba, oa, S, rfl, _⟩ := h
    rfl
  obtain ⟨a, M, ba, oa, S, rfl, hd, g, k⟩ := h
  have hS : ∀ H, SqT K H ad.SESSIONS [V.int 0, V.int 1] := T.t_SESSIONS
  obtain ⟨dx, sl, sa, b0, b1, o0, o1, h1, _, _, h4, _⟩ := id hd.ex
  walk_at "rd"
  intro z nz
  obtain ⟨s1, hz⟩ := al2 (o := .lst [V.int 0, V.int S.commits]) nz
  generalize upd H z (.lst [V.int 0, V.int S.commits]) = H1 at s1 hz ⊢
  have hS1 := hS H1
  walk_at "rd"
  refine ⟨⟨_, hS1⟩, fun D hD => ?_⟩
  have nD : ∀ {b : Addr} {u : HO}, H1 b = some u → b ≠ D := fun e => ne_of_none e hD
  have hd1 := hd.same s1
  have sz : [V.int 0, V.int 1].length = 2 := rfl
  refine lc_it walk_tup (fun i H' => Nx (Same H1 H' ∧ H' D = some (.lst (((List.range 2).take i).map fun n => V.int ((Vauowd.changesOf S.schema (sessionOf S n).base (sessionOf S n).mine).length : Nat))))) ⟨fun b u e => by rw [upd_ne (nD e)]; exact e, upd_same⟩ (fun _ _ _ _ => hS _) ?_ ?_
  · rintro i v H2 H2' hi ⟨s2, h2⟩ ⟨rfl, hv⟩
    have hv2 : v = V.int (i : Int) ∧ (i = 0 ∨ i = 1) := by
      match i, hv with
      | 0, hv => exact ⟨(Option.some.inj hv).symm, .inl rfl⟩
      | 1, hv => exact ⟨(Option.some.inj hv).symm, .inr rfl⟩
      | n + 2, hv => cases hv
    obtain ⟨rfl, hi2⟩ := hv2
    have h12 := s2 _ _ (s1 _ _ h1)
    have hd2 := hd1.same s2
    have hr2 : (List.range 2)[i]? = some i := by rcases hi2 with rfl | rfl <;> rfl
    walk_at "rd"
    intro q ws H3 nq s3 hq pr
    have lw : ws.length = (Vauowd.changesOf S.schema (sessionOf S i).base (sessionOf S i).mine).length := by
      rw [Paired.length pr, ch_spec, List.length_map]
    have h23 := s3 _ _ h2
    have hac : (((List.range 2).take i).map fun n => V.int ((Vauowd.changesOf S.schema (sessionOf S n).base (sessionOf S n).mine).length : Nat)).length ≤ 2 := by
      rw [List.length_map]; exact List.length_take_le' ..
    walk_at "rd"
    have s13 := s2.trans s3
    refine ⟨⟨fun b u e => by rw [upd_ne (nD e)]; exact s13 b u e, ?_⟩⟩
    rw [take_more hr2, List.map_append]
    exact upd_same.trans (congrArg (fun b : Nat => some (HO.lst (((List.range 2).take i).map (fun n => V.int ((Vauowd.changesOf S.schema (sessionOf S n).base (sessionOf S n).mine).length : Nat)) ++ [V.int b]))) lw)
  · rintro H2 ⟨s2, h2⟩
    have hz2 := s2 _ _ hz
    have h2 : H2 D = some (.lst [V.int (Vauowd.changesOf S.schema S.one.base S.one.mine).length, V.int (Vauowd.changesOf S.schema S.two.base S.two.mine).length]) := h2
    walk_at "rd"
    exact HPost.lst k hd (s1.trans s2)
end Tw
namespace Tw
open PySem PySem.Spec PyProof.Rows L2
open VauowBase (findRow Db tableAt dbData Schema brokenIn dbFrom emptyDb writeSchema)
open Vauowd (State Session sessionOf withSession step isSession isMode isChoices onGood noBytes toInts tryMerge refusedRow clashesOf mergedBy choicesOf mergeWith)

variable {P : Program} {w : World} {K : PySem.W.Frag} {mg : Str → Option Value} {base : Heap} {ad : Ads}
theorem op_in_seqN {X : Cx} {K : PySem.W.Frag} (hK : X.K = K := by rfl) : OpR X (compareOp .In) (rIn K false) := by
  subst hK
  exact op_in_seq
/-- the answer and the merged tables -/
def mres (S : State) (v m : Int) (x : List Int) : List Int × Option Db :=
  if !isSession v then ([-3], none) else if !isMode m then ([-8], none) else if !isChoices x then ([-12], none) else
  match tryMerge S v.toNat (m == 0) (x.map Int.toNat) with
  | .merged d => ([0], some d)
  | r => (refusedRow r, none)
abbrev s_Held_merge : Stmt := inClass (top 123) 14
theorem sc_Held_merge : FnScope ["self", "session", "mode", "choices", "clashes", "tables", "unfit", "choice"] ["self", "session", "mode", "choices"] (defScope s_Held_merge) := ⟨rfl, rfl, rfl, by decide +kernel, rfl, by decide +kernel, by decide +kernel⟩
def sp_merge (ad : Ads) : Sp := fun vs H Q _ => ∃ (a xa : Addr) (M : List Addr) (ba oa : Addr) (S : State) (v m : Int) (x : List Int), vs = [.ref a, .int v, .int m, .ref xa] ∧ HeldR ad M H a ba oa S ∧ GSt S ∧ H xa = some (.lst (x.map V.int)) ∧ x.length ≤ 5000 ∧
  ∀ t r vt H', Same H H' → H r = none → H' t = some (.tup [.ref r, vt]) → H' r = some (.lst ((mres S v m x).1.map V.int)) → ((mres S v m x).2 = none → vt = .non) → (∀ d, (mres S v m x).2 = some d → ∃ tl, vt = .ref tl ∧ H tl = none ∧ DbAt H' tl d ∧ DO S.schema d) → Q (.ref t) H'
theorem isC (z : Int) : (z == 0 || z == 1) = inV (.int z) [V.int 0, V.int 1] := (inV_two z).symm
theorem ok_merge {f : Addr} {fd : FuncData} (T : Tp K mg ad) (m_Held_clashes_of : Mc P w K mg base CX0 4 ad.Held "clashes_of" ["self", "session", "mode"] (sp_clashes_of ad))
    (c_merged_tables : Fc P w K mg base CX0 4 "merged_tables" ["began", "store", "own", "by_fields", "row_choices"] sp_merged_tables)
    (c_choices_by_row : Fc P w K mg base CX0 1 "choices_by_row" ["clashes", "choices"] sp_choices_by_row)
    (c_first_unfit : Fc P w K mg base CX0 4 "first_unfit" ["schema", "tables"] (sp_first_unfit ad))
    (F : Fun K "merge" "Held.merge" s_Held_merge f fd) : FnOk P w K mg base CX0 5 f fd ["self", "session", "mode", "choices"] (sp_merge ad) := by
  refine F.ok sc_Held_merge (fun vs H Q E h => ?_) (fun cdv A outer s H vs Q E hr h => ⟨_, (pss_cons (ps_if (pt_cmpR op_notIn_seq (pv 1) (pe_cst (by rfl) T.k_SESSIONS) (by rfl)) (pss_one (ps_ret (pe_tup (pa_cons (pe_lst (pa_cons (pe_cst (by rfl) T.k_NO_SESSION) pa_nil)) (pa_cons pe_non pa_nil))))) pss_nil) (pss_cons (ps_if (pt_cmpR op_notIn_seq (pv 2) (pe_cst (by rfl) T.k_MODES) (by rfl)) (pss_one (ps_ret (pe_tup (pa_cons (pe_lst (pa_cons (pe_cst (by rfl) T.k_NO_MODE) pa_nil)) (pa_cons pe_non pa_nil))))) pss_nil) (pss_cons (ps_if (pt_not (pt_val (pe_callB (cr_all rfl) (by rfl) T.b_all (by decide +kernel) (pa_cons (pe_lc (own := [("choice", 7)]) (g := gName 7) (tt := tYes) rfl sc_Held_merge.nd (pi_list (pv 3)) (blkOk_by (N := ["self", "session", "mode", "choices", "clashes", "tables", "unfit", "choice"]) (sc := defScope s_Held_merge) (by decide +kernel)) (fun _ _ _ _ _ => pg_name (i := 7) sc_Held_merge.nd rfl (Or.inl rfl)) (fun _ _ _ _ _ => pts_nil) (fun _ _ _ _ _ => (pe_cmpR (op_in_seqN (K := K)) (pv 7) (pe_cst (by rfl) T.k_CHOICES) (by rfl)))) pa_nil)))) (pss_one (ps_ret (pe_tup (pa_cons (pe_lst (pa_cons (pe_cst (by rfl) T.k_NO_CHOICE) pa_nil)) (pa_cons pe_non pa_nil))))) pss_nil) (pss_cons (ps_set (i := 4) sc_Held_merge.nd rfl (.inl rfl) (pe_mc (pv 0) T.cl_Held m_Held_clashes_of (hr.mono (by decide)) pass0 (pa_cons (pv 1) (pa_cons (pv 2) pa_nil)))) (pss_cons (ps_if (pt_cmpR op_ne (pe_callB call_len_seq (by rfl) T.b_len (by decide +kernel) (pa_cons (pv 3) pa_nil)) (pe_callB call_len_seq (by rfl) T.b_len (by decide +kernel) (pa_cons (pv 4) pa_nil)) (nomark _)) (pss_one (ps_ret (pe_tup (pa_cons (pe_lst (pa_cons (pe_cst (by rfl) T.k_OTHER_COUNT) (pa_cons (pe_callB call_len_seq (by rfl) T.b_len (by decide +kernel) (pa_cons (pv 4) pa_nil)) pa_nil))) (pa_cons pe_non pa_nil))))) pss_nil) (pss_cons (ps_set (i := 5) sc_Held_merge.nd rfl (.inl rfl) (pe_fc c_merged_tables (hr.mono (by decide)) (by rfl) (pa_cons (pe_ix ix_list (pe_fl T.cl_Held T.n_Held_began (pv 0)) (pv 1) (fun _ _ => rfl)) (pa_cons (pe_fl T.cl_Held T.n_Held_store (pv 0)) (pa_cons (pe_ix ix_list (pe_fl T.cl_Held T.n_Held_own (pv 0)) (pv 1) (fun _ _ => rfl)) (pa_cons (pe_cmpR op_eq (pv 2) (pe_cst (by rfl) T.k_BY_FIELDS) (nomark _)) (pa_cons (pe_fc c_choices_by_row (hr.mono (by decide)) (by rfl) (pa_cons (pv 4) (pa_cons (pv 3) pa_nil))) pa_nil))))))) (pss_cons (ps_set (i := 6) sc_Held_merge.nd rfl (.inl rfl) (pe_fc c_first_unfit (hr.mono (by decide)) (by rfl) (pa_cons (pe_fl T.cl_Held T.n_Held_schema (pv 0)) (pa_cons (pv 5) pa_nil)))) (pss_cons (ps_if (pt_cmpR op_gt (pe_callB call_len_seq (by rfl) T.b_len (by decide +kernel) (pa_cons (pv 6) pa_nil)) pe_int (nomark _)) (pss_one (ps_ret (pe_tup (pa_cons (pe_op op_cat (pe_lst (pa_cons (pe_cst (by rfl) T.k_NOT_GOOD) pa_nil)) (pv 6)) (pa_cons pe_non pa_nil))))) pss_nil) (pss_one (ps_ret (pe_tup (pa_cons (pe_lst (pa_cons pe_int pa_nil)) (pa_cons (pv 5) pa_nil))))))))))))), ?_⟩)
  · obtain ⟨a, xa, M, ba, oa, S, v, m, x, rfl, _⟩ := h
    rfl
  obtain ⟨a, xa, M, ba, oa, S, v, m, x, rfl, hd, g, hxa, hlen, k⟩ := h
  have hS : SqT K H ad.SESSIONS [V.int 0, V.int 1] := T.t_SESSIONS H
  have hM : SqT K H ad.MODES [V.int 0, V.int 1] := T.t_MODES H
  have hC : ∀ H, SqT K H ad.CHOICES [V.int 0, V.int 1] := T.t_CHOICES
  have eR : mres S v m x = if !(v == 0 || v == 1) then ([-3], none) else if !(m == 0 || m == 1) then ([-8], none) else if !isChoices x then ([-12], none) else
    match tryMerge S v.toNat (m == 0) (x.map Int.toNat) with
    | .merged d => ([0], some d)
    | r => (refusedRow r, none) := rfl
  -- a refusal
  have ref : ∀ (H1 : Hp), Same H H1 → (mres S v m x).2 = none → ∀ r, H1 r = none → ∀ t, upd H1 r (.lst ((mres S v m x).1.map V.int)) t = none → Q (.ref t) (upd (upd H1 r (.lst ((mres S v m x).1.map V.int))) t (.tup [.ref r, .non])) := fun H1 s1 en r nr t nt => by
    obtain ⟨s2, hr2⟩ := al2 (o := .lst ((mres S v m x).1.map V.int)) nr
    obtain ⟨s3, ht3⟩ := al2 (o := .tup [.ref r, .non]) nt
    exact k t r .non _ (s1.trans (s2.trans s3)) (fresh_of (as := []) (Kp.of_same s1) nr (by simp)) ht3 (s3 _ _ hr2) (fun _ => rfl) (fun d e => by rw [en] at e; cases e)
  walk_at "rd"
  refine ifnb (b := inV (.int v) [V.int 0, V.int 1]) (fun c1 => ?_) (fun c1 => ?_)
  · rw [inV_two] at c1
    rw [c1] at eR
    rw [eR] at ref
    walk_at "rd"
    intro r nr
    walk_at "rd"
    exact ref H (Same.refl _) rfl r nr
  rw [inV_two] at c1
  walk_at "rd"
  refine ifnb (b := inV (.int m) [V.int 0, V.int 1]) (fun c2 => ?_) (fun c2 => ?_)
  · rw [inV_two] at c2
    rw [c1, c2] at eR
    rw [eR] at ref
    walk_at "rd"
    intro r nr
    walk_at "rd"
    exact ref H (Same.refl _) rfl r nr
  rw [inV_two] at c2
  walk_at "rd"
  refine ⟨⟨_, SqL.of hxa⟩, fun D hD => ?_⟩
  have nD : ∀ {b : Addr} {u : HO}, H b = some u → b ≠ D := fun e => ne_of_none e hD
  refine lc_it walk_list (fun i H' => Nx (Same H H' ∧ H' D = some (.lst ((x.take i).map fun z => V.bl (z == 0 || z == 1))))) ⟨⟨fun b u e => by rw [upd_ne (nD e)]; exact e, upd_same⟩⟩ (fun i H' _ q => SqL.of (q.h.1 _ _ hxa)) ?_ ?_
  · rintro i v' H2 H2' hi ⟨s2, h2⟩ ⟨rfl, hv⟩
    obtain ⟨z, hz, rfl⟩ := map_get hv
    have hl2 : ((x.take i).map fun z => V.bl (z == 0 || z == 1)).length ≤ 5000 := by rw [List.length_map]; exact Nat.le_trans (List.length_take_le' ..) hlen
    have hC2 := hC H2'
    walk_at "rd"
    refine ⟨⟨fun b u e => by rw [upd_ne (nD e)]; exact s2 b u e, ?_⟩⟩
    rw [take_more hz, List.map_append]
    exact upd_same.trans (congrArg (fun b => some (HO.lst ((x.take i).map (fun z => V.bl (z == 0 || z == 1)) ++ [V.bl b]))) (inV_two z))
  rintro H2 ⟨s2, h2⟩
  rw [List.length_map, List.take_length] at h2
  have eN : (x.map fun z => z == 0 || z == 1).all id = isChoices x := by
    rw [List.all_map]; rfl
  refine ⟨D, x.map fun z => z == 0 || z == 1, rfl, SqL.of (h2.trans (by rw [List.map_map]; rfl)), ?_⟩
  have hd2 := hd.same s2
  clear h2
  walk_at "rd"
  rw [eN]
  rw [c1, c2] at eR
  refine ifnb (fun c3 => ?_) (fun c3 => ?_)
  · rw [c3] at eR
    rw [eR] at ref
    walk_at "rd"
    intro r nr
    walk_at "rd"
    exact ref _ s2 rfl r nr
  obtain ⟨n, rfl, hn, hn2⟩ := is_nat c1
  rw [c3, hn] at eR
  have eR : mres S n m x = match tryMerge S n (m == 0) (x.map Int.toNat) with
    | .merged d => ([0], some d)
    | r => (refusedRow r, none) := eR
  have hxa2 := s2 _ _ hxa
  obtain ⟨dx, sl, sa, bas, oas, bw, ow, f1, f2, f3, f4, f5, f6, f7, f8, f9⟩ := (hd.side hn2).ex
  have f12 := s2 _ _ f1
  walk_at "rd"
  intro q ws H3 nq s3 hq pr
  have em : decide (m = 1) = !(m == 0) := by
    rw [Bool.or_eq_true, beq_iff_eq, beq_iff_eq] at c2
    rcases c2 with rfl | rfl <;> rfl
  have g1 := g.bs (w := n)
  have g2 := g.mn (w := n)
  have g3 := g.st
  have gs := g.gs
  have bnd := fcM_bound (by_ := !(m == 0)) gs g1 g3 g2
  rw [em] at pr
  rw [fc_spec g1 g3 g2] at pr bnd
  have tM : tryMerge S n (m == 0) (x.map Int.toNat) = if (clashesOf S.schema (m == 0) (sessionOf S n).base S.store (sessionOf S n).mine).length ≠ (x.map Int.toNat).length then .clash (clashesOf S.schema (m == 0) (sessionOf S n).base S.store (sessionOf S n).mine).length else
    match Vauowd.brokenOf S.schema (mergedBy S.schema (m == 0) (choicesOf (clashesOf S.schema (m == 0) (sessionOf S n).base S.store (sessionOf S n).mine) (x.map Int.toNat)) (sessionOf S n).base S.store (sessionOf S n).mine) with
    | some b => .broken b
    | none => .merged (mergedBy S.schema (m == 0) (choicesOf (clashesOf S.schema (m == 0) (sessionOf S n).base S.store (sessionOf S n).mine) (x.map Int.toNat)) (sessionOf S n).base S.store (sessionOf S n).mine) := rfl
  rw [List.length_map] at tM
  have mS := fun hy hl => merged_spec (byRow := (m == 0)) (ys := x) g1 g3 g2 hy hl
  generalize hcl : clashesOf S.schema (m == 0) (sessionOf S n).base S.store (sessionOf S n).mine = cl at pr bnd tM mS
  have lw := Paired.length pr
  rw [List.length_map] at lw
  have hxa3 := s3 _ _ hxa2
  walk_at "rd"
  have s13 := s2.trans s3
  refine ifnd (fun c4 => ?_) (fun c4 => ?_)
  · have c4 : cl.length ≠ x.length := fun z => c4 (by rw [List.length_map, lw, z])
    rw [if_pos c4] at tM
    rw [tM] at eR
    rw [eR] at ref
    walk_at "rd"
    intro r nr
    walk_at "rd"
    rw [lw]
    exact ref _ s13 rfl r nr
  have c4 : x.length = cl.length := by
    injection c4 with c4
    rw [List.length_map, lw] at c4
    omega
  rw [if_neg (fun z => z c4.symm)] at tM
  have hy : ∀ y ∈ x, y = 0 ∨ y = 1 := fun y hy => by
    have := List.all_eq_true.mp (show x.all (fun i => i == 0 || i == 1) = true from c3) y hy
    rw [Bool.or_eq_true, beq_iff_eq, beq_iff_eq] at this
    exact this
  have mS := mS hy c4
  have x7 : ∀ y ∈ cl.map (gC (sessionOf S n).base S.store (sessionOf S n).mine), y.length = 7 := bnd.2
  have xl : (cl.map (gC (sessionOf S n).base S.store (sessionOf S n).mine)).length ≤ 1000 := bnd.1
  have xy : x.length = (cl.map (gC (sessionOf S n).base S.store (sessionOf S n).mine)).length := by rw [List.length_map]; exact c4
  have f13 := s3 _ _ f12
  have f23 := s13 _ _ f2
  have f33 := s13 _ _ f3
  have f73 := f7.same s13
  have f83 := f8.same s13
  have f93 := f9.same s13
  walk_at "rd"
  intro ra H4 nra s4 hch
  have f74 := f73.same s4
  have f84 := f83.same s4
  have f94 := f93.same s4
  have ed : decide (V.int m = V.int 1) = !(m == 0) := by
    rw [← em, Bool.eq_iff_iff, decide_eq_true_eq, decide_eq_true_eq]
    exact ⟨fun z => by injection z, fun z => by rw [z]⟩
  walk_at "rd"
  intro tl H5 ntl s5 hdb
  have dw := mt_dw (by_ := !(m == 0)) (ch := chOf ((cl.map (gC (sessionOf S n).base S.store (sessionOf S n).mine)).zip x)) (b := (sessionOf S n).base) g3 g2
  rw [mS] at dw
  rw [ed, mS] at hdb
  generalize mergedBy S.schema (m == 0) (choicesOf cl (x.map Int.toNat)) (sessionOf S n).base S.store (sessionOf S n).mine = d at hdb dw tM
  have s05 := (s13.trans s4).trans s5
  have f15 := s05 _ _ f1
  have f65 := f6.same s05
  have ntlH : H tl = none := fresh_of (as := []) (Kp.of_same (s13.trans s4)) ntl (by simp)
  walk_at "rd"
  intro u H6 nu s6 hu
  have s06 := s05.trans s6
  cases eb : Vauowd.brokenOf S.schema d with
  | some b =>
    rw [eb] at tM hu
    rw [tM] at eR
    rw [eR] at ref
    have hu4 : (brkB (some b)).length = 4 := rfl
    walk_at "rd"
    intro z nz
    obtain ⟨s7, hz⟩ := al2 (o := .lst [V.int 2]) nz
    generalize upd H6 z (.lst [V.int 2]) = H7 at s7 hz ⊢
    have hu7 := s7 _ _ hu
    walk_at "rd"
    intro r nr
    walk_at "rd"
    exact ref H7 (s06.trans s7) rfl r nr
  | none =>
    rw [eb] at tM hu
    rw [tM] at eR
    rw [eR] at k
    have do_ := unfit_do dw eb
    walk_at "rd"
    intro r nr
    obtain ⟨s7, hr7⟩ := al2 (o := .lst [V.int 0]) nr
    generalize upd H6 r (.lst [V.int 0]) = H7 at s7 hr7 ⊢
    walk_at "rd"
    intro t nt
    obtain ⟨s8, ht8⟩ := al2 (o := .tup [V.ref r, V.ref tl]) nt
    generalize upd H7 t (.tup [V.ref r, V.ref tl]) = H8 at s8 ht8 ⊢
    exact k t r (.ref tl) H8 (s06.trans (s7.trans s8)) (fresh_of (as := []) (Kp.of_same s06) nr (by simp)) ht8 (s8 _ _ hr7) (fun e => by cases e) (fun d' e => ⟨tl, rfl, ntlH, by obtain rfl := Option.some.inj e; exact hdb.same (s6.trans (s7.trans s8)), by obtain rfl := Option.some.inj e; exact do_⟩)
end Tw
namespace Tw
open PySem PySem.Spec PyProof.Rows L2
open VauowBase (findRow Db tableAt dbData Schema brokenIn dbFrom emptyDb writeSchema)
open Vauowd (State Session sessionOf withSession step isSession isMode isChoices onGood noBytes toInts tryMerge refusedRow clashesOf mergedBy choicesOf mergeWith changesOf)

variable {P : Program} {w : World} {K : PySem.W.Frag} {mg : Str → Option Value} {base : Heap} {ad : Ads}
/-- merging gives tables, or a refusal -/
theorem mres_cases (S : State) (v m : Int) (x : List Int) :
    (∃ l, mres S v m x = (l, none) ∧ (∀ f : Nat → Db → State × List Int, Vauowd.onMerge S v m x (fun k byRow y => match tryMerge S k byRow y with | .merged d => f k d | r => (S, refusedRow r)) = (S, l))) ∨
    (∃ (n : Nat) (d : Db), mres S v m x = ([0], some d) ∧ v = (n : Int) ∧ (n = 0 ∨ n = 1) ∧ isChoices x = true ∧ (isSession v = true ∧ isMode m = true ∧ v.toNat = n) ∧ tryMerge S n (m == 0) (x.map Int.toNat) = .merged d) := by
  unfold mres
  cases c1 : isSession v with
  | false => exact .inl ⟨_, rfl, fun f => by unfold Vauowd.onMerge; rw [c1]; rfl⟩
  | true =>
    cases c2 : isMode m with
    | false => exact .inl ⟨_, rfl, fun f => by unfold Vauowd.onMerge; rw [c1, c2]; rfl⟩
    | true =>
      cases c3 : isChoices x with
      | false => exact .inl ⟨_, rfl, fun f => by unfold Vauowd.onMerge; rw [c1, c2, c3]; rfl⟩
      | true =>
        obtain ⟨n, rfl, hn, hn2⟩ := is_nat c1
        show (∃ l, (match tryMerge S (n : Int).toNat (m == 0) (x.map Int.toNat) with | .merged d => ([0], some d) | r => (refusedRow r, none)) = (l, none) ∧ _) ∨ (∃ n' d, (match tryMerge S (n : Int).toNat (m == 0) (x.map Int.toNat) with | .merged d => ([0], some d) | r => (refusedRow r, none)) = ([0], some d) ∧ _)
        rw [hn]
        have eo : ∀ f : Nat → Db → State × List Int, Vauowd.onMerge S n m x (fun k byRow y => match tryMerge S k byRow y with | .merged d => f k d | r => (S, refusedRow r)) = match tryMerge S n (m == 0) (x.map Int.toNat) with | .merged d => f n d | r => (S, refusedRow r) := fun f => by
          unfold Vauowd.onMerge
          rw [c1, c2, c3, hn]; rfl
        cases e : tryMerge S n (m == 0) (x.map Int.toNat) with
        | clash k => exact .inl ⟨_, rfl, fun f => by rw [eo, e]⟩
        | broken b => exact .inl ⟨_, rfl, fun f => by rw [eo, e]⟩
        | merged d => exact .inr ⟨n, d, rfl, rfl, hn2, by first | rfl | assumption, ⟨by first | rfl | assumption, by first | rfl | assumption, hn⟩, by first | rfl | assumption⟩
theorem on_merged {S : State} {n : Nat} {v m : Int} {x : List Int} (h : isSession v = true ∧ isMode m = true ∧ v.toNat = n) (h3 : isChoices x = true) (f : Nat → Bool → List Nat → State × List Int) : Vauowd.onMerge S v m x f = f n (m == 0) (x.map Int.toNat) := by
  unfold Vauowd.onMerge
  rw [h.1, h.2.1, h3, h.2.2]; rfl
theorem tm_do {S : State} (g : GSt S) {n : Nat} {m : Int} {x : List Int} {d : Db} (hc : isChoices x = true) (h : tryMerge S n (m == 0) (x.map Int.toNat) = .merged d) : DO S.schema d := by
  have g1 := g.bs (w := n)
  have g2 := g.mn (w := n)
  have g3 := g.st
  have tM : tryMerge S n (m == 0) (x.map Int.toNat) = if (clashesOf S.schema (m == 0) (sessionOf S n).base S.store (sessionOf S n).mine).length ≠ (x.map Int.toNat).length then .clash (clashesOf S.schema (m == 0) (sessionOf S n).base S.store (sessionOf S n).mine).length else
    match Vauowd.brokenOf S.schema (mergedBy S.schema (m == 0) (choicesOf (clashesOf S.schema (m == 0) (sessionOf S n).base S.store (sessionOf S n).mine) (x.map Int.toNat)) (sessionOf S n).base S.store (sessionOf S n).mine) with
    | some b => .broken b
    | none => .merged (mergedBy S.schema (m == 0) (choicesOf (clashesOf S.schema (m == 0) (sessionOf S n).base S.store (sessionOf S n).mine) (x.map Int.toNat)) (sessionOf S n).base S.store (sessionOf S n).mine) := rfl
  rw [List.length_map] at tM
  rw [tM] at h
  by_cases c4 : (clashesOf S.schema (m == 0) (sessionOf S n).base S.store (sessionOf S n).mine).length ≠ x.length
  · rw [if_pos c4] at h; cases h
  rw [if_neg c4] at h
  have c4 : x.length = (clashesOf S.schema (m == 0) (sessionOf S n).base S.store (sessionOf S n).mine).length := by omega
  have hy : ∀ y ∈ x, y = 0 ∨ y = 1 := fun y hy => by
    have := List.all_eq_true.mp (show x.all (fun i => i == 0 || i == 1) = true from hc) y hy
    rw [Bool.or_eq_true, beq_iff_eq, beq_iff_eq] at this
    exact this
  have mS := merged_spec (byRow := (m == 0)) (ys := x) g1 g3 g2 hy c4
  have dw := mt_dw (by_ := !(m == 0)) (ch := chOf (((clashesOf S.schema (m == 0) (sessionOf S n).base S.store (sessionOf S n).mine).map (gC (sessionOf S n).base S.store (sessionOf S n).mine)).zip x)) (b := (sessionOf S n).base) g3 g2
  rw [mS] at dw
  cases eb : Vauowd.brokenOf S.schema (mergedBy S.schema (m == 0) (choicesOf (clashesOf S.schema (m == 0) (sessionOf S n).base S.store (sessionOf S n).mine) (x.map Int.toNat)) (sessionOf S n).base S.store (sessionOf S n).mine) with
  | some b => rw [eb] at h; cases h
  | none =>
    rw [eb] at h
    injection h with h
    rw [← h]
    exact unfit_do dw eb
theorem step_merged (S : State) (v m : Int) (x : List Int) : step S (.merged v m x) = Vauowd.onMerge S v m x fun k byRow y => (S, match tryMerge S k byRow y with | .merged d => 0 :: dbData d | r => refusedRow r) := rfl
theorem step_commit (S : State) (v m : Int) (x : List Int) : step S (.commit v m x) = Vauowd.onMerge S v m x fun k byRow y => (match Vauowd.commitBy S k byRow y with
    | none => (S, refusedRow (tryMerge S k byRow y))
    | some t => (t, [0, ((changesOf S.schema S.store t.store).length : Int)])) := rfl
theorem step_refresh (S : State) (v m : Int) (x : List Int) : step S (.refresh v m x) = Vauowd.onMerge S v m x fun k byRow y => (match Vauowd.refreshBy S k byRow y with
    | none => (S, refusedRow (tryMerge S k byRow y))
    | some t => (t, [0, ((changesOf S.schema (sessionOf S k).mine (sessionOf t k).mine).length : Int)])) := rfl
abbrev s_Held_merged : Stmt := inClass (top 123) 11
theorem sc_Held_merged : FnScope ["self", "session", "mode", "choices", "answer", "tables"] ["self", "session", "mode", "choices"] (defScope s_Held_merged) := ⟨rfl, rfl, rfl, by decide +kernel, rfl, by decide +kernel, by decide +kernel⟩
def sp_merged (ad : Ads) : Sp := fun vs H Q _ => ∃ (a xa : Addr) (M : List Addr) (ba oa : Addr) (S : State) (v m : Int) (x : List Int), vs = [.ref a, .int v, .int m, .ref xa] ∧ HeldR ad M H a ba oa S ∧ GSt S ∧ H xa = some (.lst (x.map V.int)) ∧ x.length ≤ 5000 ∧ HPost ad H M a ba oa (step S (.merged v m x)).1 (step S (.merged v m x)).2 Q
theorem ok_merged {f : Addr} {fd : FuncData} (T : Tp K mg ad) (m_Held_merge : Mc P w K mg base CX0 5 ad.Held "merge" ["self", "session", "mode", "choices"] (sp_merge ad))
    (c_numbers_of : Fc P w K mg base CX0 1 "numbers_of" ["tables"] sp_numbers_of)
    (F : Fun K "merged" "Held.merged" s_Held_merged f fd) : FnOk P w K mg base CX0 6 f fd ["self", "session", "mode", "choices"] (sp_merged ad) := by
  refine F.ok sc_Held_merged (fun vs H Q E h => ?_) (fun cdv A outer s H vs Q E hr h => ⟨_, (pss_cons (ps_asg (pe_mc (pv 0) T.cl_Held m_Held_merge (hr.mono (by decide)) pass0 (pa_cons (pv 1) (pa_cons (pv 2) (pa_cons (pv 3) pa_nil)))) (pg_tup (by rfl) (pgs_cons (pg_name (i := 4) sc_Held_merged.nd rfl (.inl rfl)) (pgs_cons (pg_name (i := 5) sc_Held_merged.nd rfl (.inl rfl)) pgs_nil)))) (pss_cons (ps_if (pt_cmpR op_notN (pv 5) pe_non (nomark _)) (pss_one (ps_expr (pe_bm PySem.F.plainAttrs_list PySem.F.slot_list_extend PySem.F.type_list_extend mt_extendL (pv 4) (pa_cons (pe_fc c_numbers_of (hr.mono (by decide)) (by rfl) (pa_cons (pv 5) pa_nil)) pa_nil)))) pss_nil) (pss_one (ps_ret (pv 4))))), ?_⟩)
  · obtain ⟨a, xa, M, ba, oa, S, v, m, x, rfl, _⟩ := h
    rfl
  obtain ⟨a, xa, M, ba, oa, S, v, m, x, rfl, hd, g, hxa, hlen, k⟩ := h
  have gs := g.gs
  obtain ⟨dx, sl, sa, b0, b1, o0, o1, h1, h2, h3, h4, h5, h6, h7, h8, h9⟩ := id hd.ex
  walk_at "rd"
  rintro t r vt H1 s1 nr ht hr1 e1 e2
  rcases mres_cases S v m x with ⟨l, em, eo⟩ | ⟨n, d, em, rfl, hn2, hc, hses, tm⟩
  · rw [em] at hr1 e1 e2
    obtain rfl := e1 rfl
    have eS : step S (.merged v m x) = (S, l) := by
      rw [← eo fun _ d => (S, 0 :: dbData d), step_merged]
      congr 1
      funext k byRow y
      cases tryMerge S k byRow y <;> rfl
    rw [eS] at k
    walk_at "rd"
    exact k.ro hd s1 nr hr1
  · rw [em] at hr1 e1 e2
    obtain ⟨tl, rfl, ntl, hdb, dod⟩ := e2 d rfl
    have eS : step S (.merged n m x) = (S, 0 :: dbData d) := by
      rw [step_merged, on_merged hses hc, tm]
    rw [eS] at k
    have gl := dbData_len gs dod
    walk_at "rd"
    intro q H2 nq s2 hq
    have hr2 := s2 _ _ hr1
    have ll : (List.map V.int ([0], some d).1).length + ((dbData d).map V.int).length ≤ sizeLine := Nat.le_trans (by rw [List.length_map, List.length_map]; show 1 + _ ≤ 2001; omega) (by decide : 2001 ≤ sizeLine)
    walk_at "rd"
    intro H3 u3
    have s03 : Same H H3 := fun b u e => by rw [u3, upd_ne (ne_of_none e nr)]; exact s2 _ _ (s1 _ _ e)
    have hr3 : H3 r = some (.lst ((0 :: dbData d).map V.int)) := by rw [u3, upd_same]; rfl
    walk_at "rd"
    exact k.ro hd s03 nr hr3
/-- a commit's end -/
def committed (S : State) (n : Nat) (d : Db) : State := { withSession S n { base := d, mine := d } with store := d, commits := S.commits + 1 }
theorem commit_state {S : State} {n : Nat} {y : List Nat} {byRow : Bool} {d : Db} (h : tryMerge S n byRow y = .merged d) : Vauowd.commitBy S n byRow y = some (committed S n d) := by
  unfold Vauowd.commitBy
  rw [h]; rfl
theorem commit_none {S : State} {n : Nat} {y : List Nat} {byRow : Bool} (h : ∀ d, tryMerge S n byRow y ≠ .merged d) : Vauowd.commitBy S n byRow y = none := by
  unfold Vauowd.commitBy
  cases e : tryMerge S n byRow y with
  | merged d => exact absurd e (h d)
  | clash k => rfl
  | broken b => rfl
theorem msk_more {M M' : List Addr} {H H' : Hp} (h : ∀ b o, b ∉ M → H b = some o → b ∉ M' ∧ H' b = some o) : Same (msk M H) (msk M' H') := fun b o e => by
  obtain ⟨n, e⟩ := msk_le e
  obtain ⟨n', e'⟩ := h b o n e
  exact msk_in n' e'
/-- tables that are new stay when a list of one's own is changed -/
theorem db_over {M : List Addr} {H H1 : Hp} (hok : MOk ad H M) (s : Same H H1) {tl r : Addr} {d : Db} (hdb : DbAt H1 tl d) (nt : H tl = none) {xs : List V} {i : Int} (hr : H1 r = some (.lst (.int i :: xs))) (nr : H r = none) {o : HO} : DbAt (msk M (upd H1 r o)) tl d := by
  have ok1 : MOk ad H1 (r :: M) := fun y hy => by
    rcases List.mem_cons.mp hy with rfl | hy
    · exact ⟨_, hr, .inl ⟨_, rfl⟩⟩
    · exact hok.same s y hy
  have tr : tl ≠ r := fun z => by
    obtain ⟨das, e, _⟩ := hdb.ex
    rw [z, hr] at e
    have e := Option.some.inj e
    injection e with e
    cases das with
    | nil => cases e
    | cons a l => injection e with e; cases e
  refine (hdb.msk (H := H) ok1 (fun m => ?_)).same (msk_more fun b o n e => ⟨fun m => n (by simp [m]), ?_⟩)
  · rcases List.mem_cons.mp m with z | m
    · exact tr z
    · exact hok.fresh nt m
  · rw [upd_ne (fun z => n (by simp [z]))]; exact e
abbrev s_Held_commit : Stmt := inClass (top 123) 12
theorem sc_Held_commit : FnScope ["self", "session", "mode", "choices", "answer", "tables"] ["self", "session", "mode", "choices"] (defScope s_Held_commit) := ⟨rfl, rfl, rfl, by decide +kernel, rfl, by decide +kernel, by decide +kernel⟩
def sp_commit (ad : Ads) : Sp := fun vs H Q _ => ∃ (a xa : Addr) (M : List Addr) (ba oa : Addr) (S : State) (v m : Int) (x : List Int), vs = [.ref a, .int v, .int m, .ref xa] ∧ HeldR ad M H a ba oa S ∧ GSt S ∧ H xa = some (.lst (x.map V.int)) ∧ x.length ≤ 5000 ∧ HPost ad H M a ba oa (step S (.commit v m x)).1 (step S (.commit v m x)).2 Q
theorem ok_commit {f : Addr} {fd : FuncData} (T : Tp K mg ad) (m_Held_merge : Mc P w K mg base CX0 5 ad.Held "merge" ["self", "session", "mode", "choices"] (sp_merge ad))
    (c_changed_rows : Fc P w K mg base CX0 2 "changed_rows" ["began", "own"] sp_changed_rows)
    (F : Fun K "commit" "Held.commit" s_Held_commit f fd) : FnOk P w K mg base CX0 6 f fd ["self", "session", "mode", "choices"] (sp_commit ad) := by
  refine F.ok sc_Held_commit (fun vs H Q E h => ?_) (fun cdv A outer s H vs Q E hr h => ⟨_, (pss_cons (ps_asg (pe_mc (pv 0) T.cl_Held m_Held_merge (hr.mono (by decide)) pass0 (pa_cons (pv 1) (pa_cons (pv 2) (pa_cons (pv 3) pa_nil)))) (pg_tup (by rfl) (pgs_cons (pg_name (i := 4) sc_Held_commit.nd rfl (.inl rfl)) (pgs_cons (pg_name (i := 5) sc_Held_commit.nd rfl (.inl rfl)) pgs_nil)))) (pss_cons (ps_if (pt_cmpR op_notN (pv 5) pe_non (nomark _)) (pss_cons (ps_expr (pe_bm PySem.F.plainAttrs_list PySem.F.slot_list_append PySem.F.type_list_append mt_appL (pv 4) (pa_cons (pe_callB call_len_seq (by rfl) T.b_len (by decide +kernel) (pa_cons (pe_fc c_changed_rows (hr.mono (by decide)) (by rfl) (pa_cons (pe_fl T.cl_Held T.n_Held_store (pv 0)) (pa_cons (pv 5) pa_nil))) pa_nil)) pa_nil))) (pss_cons (ps_fl T.cl_Held T.n_Held_store (pv 0) (pv 5)) (pss_cons (ps_asg (pv 5) (pg_sub (pe_fl T.cl_Held T.n_Held_began (pv 0)) (pv 1) set_list)) (pss_cons (ps_asg (pv 5) (pg_sub (pe_fl T.cl_Held T.n_Held_own (pv 0)) (pv 1) set_list)) (pss_one (ps_flAdd T.cl_Held T.n_Held_commits (pv 0) pe_int)))))) pss_nil) (pss_one (ps_ret (pv 4))))), ?_⟩)
  · obtain ⟨a, xa, M, ba, oa, S, v, m, x, rfl, _⟩ := h
    rfl
  obtain ⟨a, xa, M, ba, oa, S, v, m, x, rfl, hd, g, hxa, hlen, k⟩ := h
  have gs := g.gs
  have gst := g.st
  obtain ⟨dx, sl, sa, b0, b1, o0, o1, h1, h2, h3, h4, h5, h6, h7, h8, h9⟩ := id hd.ex
  walk_at "rd"
  rintro t r vt H1 s1 nr ht hr1 e1 e2
  rcases mres_cases S v m x with ⟨l, em, eo⟩ | ⟨n, d, em, rfl, hn2, hc, hses, tm⟩
  · rw [em] at hr1 e1 e2
    obtain rfl := e1 rfl
    have eS : step S (.commit v m x) = (S, l) := by
      rw [← eo fun k d => (committed S k d, [0, ((changesOf S.schema S.store d).length : Int)]), step_commit]
      congr 1
      funext k byRow y
      cases e : tryMerge S k byRow y with
      | merged d => rw [commit_state e]; rfl
      | clash c => rw [commit_none (fun d z => by rw [e] at z; cases z)]
      | broken b => rw [commit_none (fun d z => by rw [e] at z; cases z)]
    rw [eS] at k
    walk_at "rd"
    exact k.ro hd s1 nr hr1
  · rw [em] at hr1 e1 e2
    obtain ⟨tl, rfl, ntl, hdb, dod⟩ := e2 d rfl
    have eS : step S (.commit n m x) = (committed S n d, [0, ((changesOf S.schema S.store d).length : Int)]) := by
      rw [step_commit, on_merged hses hc, commit_state tm]
      rfl
    rw [eS] at k
    have h11 := s1 _ _ h1
    have h51 := (h5.same msk_same).same s1
    walk_at "rd"
    intro q ws H2 nq s2 hq pr
    have lw : ws.length = (changesOf S.schema S.store d).length := by rw [Paired.length pr, ch_spec, List.length_map]
    have hr2 : H2 r = some (.lst [V.int 0]) := s2 _ _ hr1
    have lf : (hdF sl S.commits sa ba oa).length < 1000 := by show 5 < 1000; omega
    have ll0 : [V.int 0].length < sizeLine := by decide
    walk_at "rd"
    intro H3 u3
    have hr3 : H3 r = some (.lst ([0, ((changesOf S.schema S.store d).length : Int)].map V.int)) := by rw [u3, upd_same, lw]; rfl
    have s12 := s1.trans s2
    have s03 : Same H H3 := fun b u e => by rw [u3, upd_ne (ne_of_none e nr)]; exact s12 _ _ e
    have hm3 : DbAt (msk M H3) tl d := by
      rw [u3]
      exact db_over hd.ok s12 (hdb.same s2) ntl hr2 nr
    clear u3 hr2 hr1
    have h13 := s03 _ _ h1
    have hd3 := hd.same s03
    walk_at "rd"
    intro H4 u4
    have aba : a ≠ ba := fun z => by rw [z, h2] at h1; cases h1
    have aoa : a ≠ oa := fun z => by rw [z, h3] at h1; cases h1
    have k4 : Kp [a, ba, oa] H3 H4 := by rw [u4]; exact Kp.upd (by simp)
    have h14 : H4 a = some (.ins ad.Held dx (hdF sl S.commits tl ba oa)) := by rw [u4, upd_same]; rfl
    have h24 : H4 ba = some (.lst [V.ref b0, V.ref b1]) := by rw [u4, upd_ne (Ne.symm aba)]; exact s03 _ _ h2
    have h34 : H4 oa = some (.lst [V.ref o0, V.ref o1]) := by rw [u4, upd_ne (Ne.symm aoa)]; exact s03 _ _ h3
    clear u4 h13
    have ixb : ixN [V.ref b0, V.ref b1].length (n : Int) = some n := by rcases hn2 with rfl | rfl <;> rfl
    have ixo : ixN [V.ref o0, V.ref o1].length (n : Int) = some n := by rcases hn2 with rfl | rfl <;> rfl
    have h15 : upd H4 ba (.lst ([V.ref b0, V.ref b1].set n (V.ref tl))) a = some (.ins ad.Held dx (hdF sl S.commits tl ba oa)) := by rw [upd_ne aba]; exact h14
    have h35 : upd H4 ba (.lst ([V.ref b0, V.ref b1].set n (V.ref tl))) oa = some (.lst [V.ref o0, V.ref o1]) := by rw [upd_ne (Ne.symm hd.ne)]; exact h34
    have h25 : upd H4 ba (.lst ([V.ref b0, V.ref b1].set n (V.ref tl))) ba = some (.lst ([V.ref b0, V.ref b1].set n (V.ref tl))) := upd_same
    have k5 : Kp [a, ba, oa] H3 (upd H4 ba (.lst ([V.ref b0, V.ref b1].set n (V.ref tl)))) := k4.trans (Kp.upd (by simp))
    have h16 : upd (upd H4 ba (.lst ([V.ref b0, V.ref b1].set n (V.ref tl)))) oa (.lst ([V.ref o0, V.ref o1].set n (V.ref tl))) a = some (.ins ad.Held dx (hdF sl S.commits tl ba oa)) := by rw [upd_ne aoa]; exact h15
    walk_at "rd"
    intro H7 u7
    have k7 : Kp [a, ba, oa] H3 H7 := by rw [u7]; exact (k5.trans (Kp.upd (by simp))).trans (Kp.upd (by simp))
    have h17 : H7 a = some (.ins ad.Held dx (hdF sl (committed S n d).commits tl ba oa)) := by
      rw [u7, upd_same]
      rcases hn2 with rfl | rfl <;> rfl
    have h27 : H7 ba = some (.lst ([V.ref b0, V.ref b1].set n (V.ref tl))) := by rw [u7, upd_ne (Ne.symm aba), upd_ne hd.ne]; exact h25
    have h37 : H7 oa = some (.lst ([V.ref o0, V.ref o1].set n (V.ref tl))) := by rw [u7, upd_ne (Ne.symm aoa)]; exact upd_same
    have nrM := hd.ok.fresh nr
    have hr7 : H7 r = some (.lst ([0, ((changesOf S.schema S.store d).length : Int)].map V.int)) := k7 _ _ (by
      intro z
      simp only [List.mem_cons, List.not_mem_nil, or_false] at z
      rcases z with rfl | rfl | rfl
      · rw [h1] at nr; cases nr
      · rw [h2] at nr; cases nr
      · rw [h3] at nr; cases nr) hr3
    clear u7
    have ms := msk_kp (M := M) (Kp.of_same s03)
    have hh : HeldR ad M H7 a ba oa (committed S n d) := by
      rcases hn2 with rfl | rfl
      · exact held_put (S' := committed S 0 d) hd3 k7 h17 (b0 := tl) (b1 := b1) h27 (o0 := tl) (o1 := o1) h37 (h4.same ms) hm3 hm3 (h7.same ms) hm3 (h9.same ms)
      · exact held_put (S' := committed S 1 d) hd3 k7 h17 (b0 := b0) (b1 := tl) h27 (o0 := o0) (o1 := tl) h37 (h4.same ms) hm3 (h6.same ms) hm3 (h8.same ms) hm3
    walk_at "rd"
    exact k r H7 M ba oa ⟨(Kp.of_same s03).trans k7, hh, fun _ z => z, fun _ z => .inl z, .inl rfl, .inl rfl⟩ nr nrM hr7
end Tw
namespace Tw
open PySem PySem.Spec PyProof.Rows L2
open VauowBase (findRow Db tableAt dbData Schema brokenIn dbFrom emptyDb writeSchema)
open Vauowd (State Session sessionOf withSession step isSession isMode isChoices onGood noBytes toInts tryMerge refusedRow clashesOf mergedBy choicesOf mergeWith changesOf)

variable {P : Program} {w : World} {K : PySem.W.Frag} {mg : Str → Option Value} {base : Heap} {ad : Ads}
/-- a refresh's end -/
def refreshed (S : State) (n : Nat) (d : Db) : State := withSession S n { base := S.store, mine := d }
theorem refresh_state {S : State} {n : Nat} {y : List Nat} {byRow : Bool} {d : Db} (h : tryMerge S n byRow y = .merged d) : Vauowd.refreshBy S n byRow y = some (refreshed S n d) := by
  unfold Vauowd.refreshBy
  rw [h]; rfl
theorem refresh_none {S : State} {n : Nat} {y : List Nat} {byRow : Bool} (h : ∀ d, tryMerge S n byRow y ≠ .merged d) : Vauowd.refreshBy S n byRow y = none := by
  unfold Vauowd.refreshBy
  cases e : tryMerge S n byRow y with
  | merged d => exact absurd e (h d)
  | clash k => rfl
  | broken b => rfl
theorem with_mine (S : State) (n : Nat) (x : Session) : sessionOf (withSession S n x) n = x := by
  unfold sessionOf withSession
  by_cases h : n = 0
  · rw [if_pos h, if_pos h]
  · rw [if_neg h, if_neg h]
abbrev s_Held_refresh : Stmt := inClass (top 123) 13
theorem sc_Held_refresh : FnScope ["self", "session", "mode", "choices", "answer", "tables"] ["self", "session", "mode", "choices"] (defScope s_Held_refresh) := ⟨rfl, rfl, rfl, by decide +kernel, rfl, by decide +kernel, by decide +kernel⟩
def sp_refresh (ad : Ads) : Sp := fun vs H Q _ => ∃ (a xa : Addr) (M : List Addr) (ba oa : Addr) (S : State) (v m : Int) (x : List Int), vs = [.ref a, .int v, .int m, .ref xa] ∧ HeldR ad M H a ba oa S ∧ GSt S ∧ H xa = some (.lst (x.map V.int)) ∧ x.length ≤ 5000 ∧ HPost ad H M a ba oa (step S (.refresh v m x)).1 (step S (.refresh v m x)).2 Q
theorem ok_refresh {f : Addr} {fd : FuncData} (T : Tp K mg ad) (m_Held_merge : Mc P w K mg base CX0 5 ad.Held "merge" ["self", "session", "mode", "choices"] (sp_merge ad))
    (c_changed_rows : Fc P w K mg base CX0 2 "changed_rows" ["began", "own"] sp_changed_rows)
    (F : Fun K "refresh" "Held.refresh" s_Held_refresh f fd) : FnOk P w K mg base CX0 6 f fd ["self", "session", "mode", "choices"] (sp_refresh ad) := by
  refine F.ok sc_Held_refresh (fun vs H Q E h => ?_) (fun cdv A outer s H vs Q E hr h => ⟨_, (pss_cons (ps_asg (pe_mc (pv 0) T.cl_Held m_Held_merge (hr.mono (by decide)) pass0 (pa_cons (pv 1) (pa_cons (pv 2) (pa_cons (pv 3) pa_nil)))) (pg_tup (by rfl) (pgs_cons (pg_name (i := 4) sc_Held_refresh.nd rfl (.inl rfl)) (pgs_cons (pg_name (i := 5) sc_Held_refresh.nd rfl (.inl rfl)) pgs_nil)))) (pss_cons (ps_if (pt_cmpR op_notN (pv 5) pe_non (nomark _)) (pss_cons (ps_expr (pe_bm PySem.F.plainAttrs_list PySem.F.slot_list_append PySem.F.type_list_append mt_appL (pv 4) (pa_cons (pe_callB call_len_seq (by rfl) T.b_len (by decide +kernel) (pa_cons (pe_fc c_changed_rows (hr.mono (by decide)) (by rfl) (pa_cons (pe_ix ix_list (pe_fl T.cl_Held T.n_Held_own (pv 0)) (pv 1) (fun _ _ => rfl)) (pa_cons (pv 5) pa_nil))) pa_nil)) pa_nil))) (pss_cons (ps_asg (pe_fl T.cl_Held T.n_Held_store (pv 0)) (pg_sub (pe_fl T.cl_Held T.n_Held_began (pv 0)) (pv 1) set_list)) (pss_one (ps_asg (pv 5) (pg_sub (pe_fl T.cl_Held T.n_Held_own (pv 0)) (pv 1) set_list))))) pss_nil) (pss_one (ps_ret (pv 4))))), ?_⟩)
  · obtain ⟨a, xa, M, ba, oa, S, v, m, x, rfl, _⟩ := h
    rfl
  obtain ⟨a, xa, M, ba, oa, S, v, m, x, rfl, hd, g, hxa, hlen, k⟩ := h
  have gs := g.gs
  have gst := g.st
  obtain ⟨dx, sl, sa, b0, b1, o0, o1, h1, h2, h3, h4, h5, h6, h7, h8, h9⟩ := id hd.ex
  walk_at "rd"
  rintro t r vt H1 s1 nr ht hr1 e1 e2
  rcases mres_cases S v m x with ⟨l, em, eo⟩ | ⟨n, d, em, rfl, hn2, hc, hses, tm⟩
  · rw [em] at hr1 e1 e2
    obtain rfl := e1 rfl
    have eS : step S (.refresh v m x) = (S, l) := by
      rw [← eo fun k d => (refreshed S k d, [0, ((changesOf S.schema (sessionOf S k).mine d).length : Int)]), step_refresh]
      congr 1
      funext k byRow y
      cases e : tryMerge S k byRow y with
      | merged d =>
        rw [refresh_state e]
        show (refreshed S k d, [0, ((changesOf S.schema (sessionOf S k).mine (sessionOf (withSession S k { base := S.store, mine := d }) k).mine).length : Int)]) = _
        rw [with_mine]
      | clash c => rw [refresh_none (fun d z => by rw [e] at z; cases z)]
      | broken b => rw [refresh_none (fun d z => by rw [e] at z; cases z)]
    rw [eS] at k
    walk_at "rd"
    exact k.ro hd s1 nr hr1
  · rw [em] at hr1 e1 e2
    obtain ⟨tl, rfl, ntl, hdb, dod⟩ := e2 d rfl
    have eS : step S (.refresh n m x) = (refreshed S n d, [0, ((changesOf S.schema (sessionOf S n).mine d).length : Int)]) := by
      rw [step_refresh, on_merged hses hc, refresh_state tm]
      show (refreshed S n d, [0, ((changesOf S.schema (sessionOf S n).mine (sessionOf (withSession S n { base := S.store, mine := d }) n).mine).length : Int)]) = _
      rw [with_mine]
    rw [eS] at k
    obtain ⟨ow, how, dow⟩ : ∃ ow, atI [V.ref o0, V.ref o1] (n : Int) = some (.ref ow) ∧ DbAt (msk M H) ow (sessionOf S n).mine := by
      rcases hn2 with rfl | rfl
      · exact ⟨o0, rfl, h8⟩
      · exact ⟨o1, rfl, h9⟩
    have gmn := g.mn (w := n)
    have h11 := s1 _ _ h1
    have h31 := s1 _ _ h3
    have dow1 := (dow.same msk_same).same s1
    walk_at "rd"
    intro q ws H2 nq s2 hq pr
    have lw : ws.length = (changesOf S.schema (sessionOf S n).mine d).length := by rw [Paired.length pr, ch_spec, List.length_map]
    have hr2 : H2 r = some (.lst [V.int 0]) := s2 _ _ hr1
    have ll0 : [V.int 0].length < sizeLine := by decide
    walk_at "rd"
    intro H3 u3
    have hr3 : H3 r = some (.lst ([0, ((changesOf S.schema (sessionOf S n).mine d).length : Int)].map V.int)) := by rw [u3, upd_same, lw]; rfl
    have s12 := s1.trans s2
    have s03 : Same H H3 := fun b u e => by rw [u3, upd_ne (ne_of_none e nr)]; exact s12 _ _ e
    have hm3 : DbAt (msk M H3) tl d := by
      rw [u3]
      exact db_over hd.ok s12 (hdb.same s2) ntl hr2 nr
    clear u3 hr2 hr1 h11 h31 dow1
    have h13 := s03 _ _ h1
    have h23 := s03 _ _ h2
    have h33 := s03 _ _ h3
    have hd3 := hd.same s03
    have aba : a ≠ ba := fun z => by rw [z, h2] at h1; cases h1
    have aoa : a ≠ oa := fun z => by rw [z, h3] at h1; cases h1
    have ixb : ixN [V.ref b0, V.ref b1].length (n : Int) = some n := by rcases hn2 with rfl | rfl <;> rfl
    have ixo : ixN [V.ref o0, V.ref o1].length (n : Int) = some n := by rcases hn2 with rfl | rfl <;> rfl
    have h15 : upd H3 ba (.lst ([V.ref b0, V.ref b1].set n (V.ref sa))) a = some (.ins ad.Held dx (hdF sl S.commits sa ba oa)) := by rw [upd_ne aba]; exact h13
    have h35 : upd H3 ba (.lst ([V.ref b0, V.ref b1].set n (V.ref sa))) oa = some (.lst [V.ref o0, V.ref o1]) := by rw [upd_ne (Ne.symm hd.ne)]; exact h33
    have k7 : Kp [a, ba, oa] H3 (upd (upd H3 ba (.lst ([V.ref b0, V.ref b1].set n (V.ref sa)))) oa (.lst ([V.ref o0, V.ref o1].set n (V.ref tl)))) := (Kp.upd (by simp)).trans (Kp.upd (by simp))
    have h17 : upd (upd H3 ba (.lst ([V.ref b0, V.ref b1].set n (V.ref sa)))) oa (.lst ([V.ref o0, V.ref o1].set n (V.ref tl))) a = some (.ins ad.Held dx (hdF sl (refreshed S n d).commits sa ba oa)) := by
      rw [upd_ne aoa, h15]
      rcases hn2 with rfl | rfl <;> rfl
    have h27 : upd (upd H3 ba (.lst ([V.ref b0, V.ref b1].set n (V.ref sa)))) oa (.lst ([V.ref o0, V.ref o1].set n (V.ref tl))) ba = some (.lst ([V.ref b0, V.ref b1].set n (V.ref sa))) := by rw [upd_ne hd.ne]; exact upd_same
    have h37 : upd (upd H3 ba (.lst ([V.ref b0, V.ref b1].set n (V.ref sa)))) oa (.lst ([V.ref o0, V.ref o1].set n (V.ref tl))) oa = some (.lst ([V.ref o0, V.ref o1].set n (V.ref tl))) := upd_same
    have nrM := hd.ok.fresh nr
    have hr7 : upd (upd H3 ba (.lst ([V.ref b0, V.ref b1].set n (V.ref sa)))) oa (.lst ([V.ref o0, V.ref o1].set n (V.ref tl))) r = some (.lst ([0, ((changesOf S.schema (sessionOf S n).mine d).length : Int)].map V.int)) := k7 _ _ (by
      intro z
      simp only [List.mem_cons, List.not_mem_nil, or_false] at z
      rcases z with rfl | rfl | rfl
      · rw [h1] at nr; cases nr
      · rw [h2] at nr; cases nr
      · rw [h3] at nr; cases nr) hr3
    have ms := msk_kp (M := M) (Kp.of_same s03)
    have hh : HeldR ad M (upd (upd H3 ba (.lst ([V.ref b0, V.ref b1].set n (V.ref sa)))) oa (.lst ([V.ref o0, V.ref o1].set n (V.ref tl)))) a ba oa (refreshed S n d) := by
      rcases hn2 with rfl | rfl
      · exact held_put (S' := refreshed S 0 d) hd3 k7 h17 (b0 := sa) (b1 := b1) h27 (o0 := tl) (o1 := o1) h37 (h4.same ms) (h5.same ms) (h5.same ms) (h7.same ms) hm3 (h9.same ms)
      · exact held_put (S' := refreshed S 1 d) hd3 k7 h17 (b0 := b0) (b1 := sa) h27 (o0 := o0) (o1 := tl) h37 (h4.same ms) (h5.same ms) (h6.same ms) (h5.same ms) (h8.same ms) hm3
    walk_at "rd"
    exact k r _ M ba oa ⟨(Kp.of_same s03).trans k7, hh, fun _ z => z, fun _ z => .inl z, .inl rfl, .inl rfl⟩ nr nrM hr7
end Tw
namespace Tw
open PySem PySem.Spec PyProof.Rows L2
open VauowBase (findRow Db tableAt dbData Schema brokenIn dbFrom emptyDb writeSchema)
open Vauowd (State Session sessionOf withSession step isSession isMode isChoices onGood noBytes toInts tryMerge refusedRow clashesOf mergedBy choicesOf mergeWith changesOf commitBy)

variable {P : Program} {w : World} {K : PySem.W.Frag} {mg : Str → Option Value} {base : Heap} {ad : Ads}
theorem pe_mkc0 {X : Cx} {k : Nat} {C : Addr} {x : Str} {ps : List Str} {sp : Sp} {p pos : Pos} (M : Ic X.prog X.w X.K X.mg X.base k C ps sp) (hr : Room (k + 1) X.A) (hg : Gl X x) (hm : X.mg x = some (.ref C))
    (hdb : (x == ("__debug__" : Str)) = false := by decide) :
    PE X (.Call (.Name x p) [] [] pos) (tMake C sp [] E0 tNil) := by
  obtain ⟨f, fd, h1, h2, h3⟩ := M
  exact pe_make0 h1 h3 hr hg hm h2 .nil pass0 hdb
abbrev s_Held_twin : Stmt := inClass (top 123) 18
theorem sc_Held_twin : FnScope ["self", "twin"] ["self"] (defScope s_Held_twin) := ⟨rfl, rfl, rfl, by decide +kernel, rfl, by decide +kernel, by decide +kernel⟩
def sp_twin (ad : Ads) : Sp := fun vs H Q _ => ∃ (a : Addr) (M : List Addr) (ba oa : Addr) (S : State), vs = [.ref a] ∧ HeldR ad M H a ba oa S ∧
  ∀ x ba' oa' H', Same H H' → HeldR ad [x, ba', oa'] H' x ba' oa' S → H x = none → H ba' = none → H oa' = none → Q (.ref x) H'
theorem ok_twin {f : Addr} {fd : FuncData} (T : Tp K mg ad) (i_Held : Ic P w K mg base 2 ad.Held ["self"] (sp_Held_init ad))
    (F : Fun K "twin" "Held.twin" s_Held_twin f fd) : FnOk P w K mg base CX0 4 f fd ["self"] (sp_twin ad) := by
  refine F.ok sc_Held_twin (fun vs H Q E h => ?_) (fun cdv A outer s H vs Q E hr h => ⟨_, (pss_cons (ps_set (i := 1) sc_Held_twin.nd rfl (.inl rfl) (pe_mkc0 i_Held (hr.mono (by decide)) (by rfl) T.g_Held)) (pss_cons (ps_fl T.cl_Held T.n_Held_schema (pv 1) (pe_fl T.cl_Held T.n_Held_schema (pv 0))) (pss_cons (ps_fl T.cl_Held T.n_Held_commits (pv 1) (pe_fl T.cl_Held T.n_Held_commits (pv 0))) (pss_cons (ps_fl T.cl_Held T.n_Held_store (pv 1) (pe_fl T.cl_Held T.n_Held_store (pv 0))) (pss_cons (ps_fl T.cl_Held T.n_Held_began (pv 1) (pe_callTy call_list_of (by rfl) T.b_list (by decide +kernel) (pa_cons (pe_fl T.cl_Held T.n_Held_began (pv 0)) pa_nil))) (pss_cons (ps_fl T.cl_Held T.n_Held_own (pv 1) (pe_callTy call_list_of (by rfl) T.b_list (by decide +kernel) (pa_cons (pe_fl T.cl_Held T.n_Held_own (pv 0)) pa_nil))) (pss_one (ps_ret (pv 1))))))))), ?_⟩)
  · obtain ⟨a, M, ba, oa, S, rfl, _⟩ := h
    rfl
  obtain ⟨a, M, ba, oa, S, rfl, hd, k⟩ := h
  obtain ⟨dx, sl, sa, b0, b1, o0, o1, h1, h2, h3, h4, h5, h6, h7, h8, h9⟩ := id hd.ex
  walk_at "rd"
  intro x dx' nx ndx nex
  walk_at "rd"
  intro H1 sl0 t0 ba0 oa0 k1 h1x _ _ _ _ _ _ _ _ _
  have s1 : Same H H1 := fun b u e => by
    have n1 : b ≠ x := ne_of_none e nx
    refine k1 b u (by simpa using n1) ?_
    rw [upd_ne n1, upd_ne (ne_of_none e ndx)]; exact e
  clear k1
  have lx : ∀ (sl : Addr) (n : Nat) (sa ba oa : Addr), (hdF sl n sa ba oa).length < 1000 := fun _ _ _ _ _ => by show 5 < 1000; omega
  have up : ∀ {H1 H2 : Hp} {o : HO}, Same H H1 → H2 = upd H1 x o → Same H H2 := fun {H1 H2 o} s e b u q => by rw [e, upd_ne (ne_of_none q nx)]; exact s b u q
  have h11 := s1 _ _ h1
  have l1 := lx sl0 0 t0 ba0 oa0
  walk_at "rd"
  intro H2 u2
  have s2 := up s1 u2
  have h2x : H2 x = some (.ins ad.Held dx' (hdF sl 0 t0 ba0 oa0)) := by rw [u2, upd_same]; rfl
  clear u2
  have h12 := s2 _ _ h1
  have l2 := lx sl 0 t0 ba0 oa0
  walk_at "rd"
  intro H3 u3
  have s3 := up s2 u3
  have h3x : H3 x = some (.ins ad.Held dx' (hdF sl S.commits t0 ba0 oa0)) := by rw [u3, upd_same]; rfl
  clear u3
  have h13 := s3 _ _ h1
  have l3 := lx sl S.commits t0 ba0 oa0
  walk_at "rd"
  intro H4 u4
  have s4 := up s3 u4
  have h4x : H4 x = some (.ins ad.Held dx' (hdF sl S.commits sa ba0 oa0)) := by rw [u4, upd_same]; rfl
  clear u4
  have h14 := s4 _ _ h1
  have h24 := s4 _ _ h2
  walk_at "rd"
  intro ba' nb'
  obtain ⟨s5, hb5⟩ := al2 (o := .lst [V.ref b0, V.ref b1]) nb'
  generalize upd H4 ba' (.lst [V.ref b0, V.ref b1]) = H5 at s5 hb5 ⊢
  have h5x := s5 _ _ h4x
  have l4 := lx sl S.commits sa ba0 oa0
  have nbx : ba' ≠ x := fun z => by rw [z, h4x] at nb'; cases nb'
  have nbH : H ba' = none := fresh_of (as := []) (Kp.of_same s4) nb' (by simp)
  walk_at "rd"
  intro H6 u6
  have s6 := up (s4.trans s5) u6
  have h6x : H6 x = some (.ins ad.Held dx' (hdF sl S.commits sa ba' oa0)) := by rw [u6, upd_same]; rfl
  have hb6 : H6 ba' = some (.lst [V.ref b0, V.ref b1]) := by rw [u6, upd_ne nbx]; exact hb5
  clear u6
  have h16 := s6 _ _ h1
  have h36 := s6 _ _ h3
  walk_at "rd"
  intro oa' no'
  obtain ⟨s7, ho7⟩ := al2 (o := .lst [V.ref o0, V.ref o1]) no'
  generalize upd H6 oa' (.lst [V.ref o0, V.ref o1]) = H7 at s7 ho7 ⊢
  have h7x := s7 _ _ h6x
  have hb7 := s7 _ _ hb6
  have l5 := lx sl S.commits sa ba' oa0
  have nox : oa' ≠ x := fun z => by rw [z, h6x] at no'; cases no'
  have nbo : ba' ≠ oa' := fun z => by rw [← z, hb6] at no'; cases no'
  have noH : H oa' = none := fresh_of (as := []) (Kp.of_same s6) no' (by simp)
  walk_at "rd"
  intro H8 u8
  have s8 := up (s6.trans s7) u8
  have h8x : H8 x = some (.ins ad.Held dx' (hdF sl S.commits sa ba' oa')) := by rw [u8, upd_same]; rfl
  have hb8 : H8 ba' = some (.lst [V.ref b0, V.ref b1]) := by rw [u8, upd_ne nbx]; exact hb7
  have ho8 : H8 oa' = some (.lst [V.ref o0, V.ref o1]) := by rw [u8, upd_ne nox]; exact ho7
  clear u8
  have ms : Same (msk M H) (msk [x, ba', oa'] H8) := msk_more fun b o n e => ⟨fun m => (by
    simp only [List.mem_cons, List.not_mem_nil, or_false] at m
    rcases m with rfl | rfl | rfl
    · rw [nx] at e; cases e
    · rw [nbH] at e; cases e
    · rw [noH] at e; cases e), s8 b o e⟩
  have hh : HeldR ad [x, ba', oa'] H8 x ba' oa' S := by
    refine ⟨⟨dx', sl, sa, b0, b1, o0, o1, h8x, hb8, ho8, h4.same ms, h5.same ms, h6.same ms, h7.same ms, h8.same ms, h9.same ms⟩, by simp, by simp, by simp, nbo, fun y hy => ?_⟩
    simp only [List.mem_cons, List.not_mem_nil, or_false] at hy
    rcases hy with rfl | rfl | rfl
    · exact ⟨_, h8x, .inr ⟨_, _, rfl, rfl⟩⟩
    · exact ⟨_, hb8, .inl ⟨_, rfl⟩⟩
    · exact ⟨_, ho8, .inl ⟨_, rfl⟩⟩
  walk_at "rd"
  exact k x ba' oa' H8 s8 hh nx nbH noH
/-! ### the state stays of its form -/
theorem GSt.all {S : State} (gs : GS S.schema) {d : Db} (h : DO S.schema d) : GSt (filled S d) := ⟨gs, h, h, h, h, h⟩
theorem GSt.session {S : State} (g : GSt S) {n : Nat} {x : Session} (h1 : DO S.schema x.base) (h2 : DO S.schema x.mine) : GSt (withSession S n x) := by
  unfold withSession
  by_cases e : n = 0
  · rw [if_pos e]; exact ⟨g.gs, g.st, h1, g.b1, h2, g.o1⟩
  · rw [if_neg e]; exact ⟨g.gs, g.st, g.b0, h1, g.o0, h2⟩
theorem GSt.committed {S : State} (g : GSt S) {n : Nat} {d : Db} (h : DO S.schema d) : GSt (committed S n d) := by
  have := g.session (n := n) (x := { base := d, mine := d }) h h
  unfold withSession at this
  unfold Tw.committed withSession
  by_cases e : n = 0
  · rw [if_pos e] at this ⊢; exact ⟨this.gs, h, this.b0, this.b1, this.o0, this.o1⟩
  · rw [if_neg e] at this ⊢; exact ⟨this.gs, h, this.b0, this.b1, this.o0, this.o1⟩
theorem GSt.refreshed {S : State} (g : GSt S) {n : Nat} {d : Db} (h : DO S.schema d) : GSt (refreshed S n d) := g.session g.st h
theorem committed_schema (S : State) (n : Nat) (d : Db) : (committed S n d).schema = S.schema := by
  unfold committed withSession
  by_cases e : n = 0
  · rw [if_pos e]
  · rw [if_neg e]
theorem empty_do (x : Schema) : DO x (emptyDb x) := ⟨List.length_map .., fun t rs tb h _ => by
  unfold emptyDb at h
  rw [List.getElem?_map] at h
  cases e : x[t]? with
  | none => rw [e] at h; cases h
  | some y =>
    rw [e] at h
    obtain rfl := Option.some.inj h
    exact ⟨Nat.zero_le _, rfl, fun r hr => by cases hr⟩⟩
theorem GSt.start : GSt Vauowd.start := ⟨⟨by decide, fun t h => by cases h⟩, empty_do [], empty_do [], empty_do [], empty_do [], empty_do []⟩
theorem on_merge_st {S : State} (g : GSt S) {v m : Int} {x : List Int} {f : Nat → Db → State × List Int} (hf : ∀ n d, DO S.schema d → GSt (f n d).1) :
    GSt (Vauowd.onMerge S v m x fun k byRow y => match tryMerge S k byRow y with | .merged d => f k d | r => (S, refusedRow r)).1 := by
  rcases mres_cases S v m x with ⟨l, _, eo⟩ | ⟨n, d, _, rfl, _, hc, hses, tm⟩
  · exact Eq.mpr (congrArg (fun p : State × List Int => GSt p.1) (eo f)) g
  · rw [on_merged hses hc, tm]
    exact hf n d (tm_do g hc tm)
theorem GSt.onGood {S : State} (g : GSt S) {l : List Int} {f : Db → State × List Int} (hf : ∀ d, DO S.schema d → GSt (f d).1) : GSt (onGood S l f).1 := by
  rw [onGood_eq]
  cases e : dbFrom S.schema l with
  | none => exact g
  | some d =>
    show GSt (match (brokenIn S.schema d).head? with | some b => (S, jM S (some d)) | none => f d).1
    cases (brokenIn S.schema d).head? with
    | some b => exact g
    | none => exact hf d (db_ok e)
theorem GSt.step {S : State} (g : GSt S) (c : Vauowd.Call) : GSt (step S c).1 := by
  cases c with
  | load l =>
    have eA : Vauowd.step S (.load l) = if noBytes l then (S, [-1]) else if VauowBase.TEXT < l.length then (S, [-2]) else (match VauowBase.readSchema (l.map Int.toNat) with
      | .error f => (S, toInts [1, f.1, f.2])
      | .ok x => (loaded x, 0 :: toInts [x.length, (x.map fun t : VauowBase.Table => t.columns.length).foldl (fun a b => a + b) 0])) := rfl
    rw [eA]
    split
    · exact g
    · split
      · exact g
      · cases e : VauowBase.readSchema (l.map Int.toNat) with
        | error f => exact g
        | ok x => exact ⟨schema_ok e, empty_do x, empty_do x, empty_do x, empty_do x, empty_do x⟩
  | written => exact g
  | fill l => exact g.onGood fun d h => ⟨g.gs, h, h, h, h, h⟩
  | set v l =>
    have eA : Vauowd.step S (.set v l) = if !(v == 0 || v == 1) then (S, [-3]) else Vauowd.onGood S l fun d => (withSession S v.toNat { sessionOf S v.toNat with mine := d }, [0]) := rfl
    rw [eA]
    split
    · exact g
    · exact g.onGood fun d h => g.session (g.bs (w := v.toNat)) h
  | changed v => exact g
  | clashes v m =>
    have eA : Vauowd.step S (.clashes v m) = (if !(v == 0 || v == 1) then (S, [-3]) else if !(m == 0 || m == 1) then (S, [-8]) else (S, Vauowd.clashesRow S v.toNat (m == 0))) := rfl
    rw [eA]
    split
    · exact g
    · split <;> exact g
  | merged v m x =>
    have e : Vauowd.step S (.merged v m x) = Vauowd.onMerge S v m x fun k byRow y => match tryMerge S k byRow y with | .merged d => (S, 0 :: dbData d) | r => (S, refusedRow r) := by
      rw [step_merged]
      congr 1
      funext k byRow y
      cases tryMerge S k byRow y <;> rfl
    rw [e]
    exact on_merge_st g (f := fun _ d => (S, 0 :: dbData d)) fun _ _ _ => g
  | commit v m x =>
    have e : Vauowd.step S (.commit v m x) = Vauowd.onMerge S v m x fun k byRow y => match tryMerge S k byRow y with | .merged d => (Tw.committed S k d, [0, ((changesOf S.schema S.store d).length : Int)]) | r => (S, refusedRow r) := by
      rw [step_commit]
      congr 1
      funext k byRow y
      cases e : tryMerge S k byRow y with
      | merged d => rw [commit_state e]; rfl
      | clash c => rw [commit_none (fun d z => by rw [e] at z; cases z)]
      | broken b => rw [commit_none (fun d z => by rw [e] at z; cases z)]
    rw [e]
    exact on_merge_st g (f := fun k d => (Tw.committed S k d, [0, ((changesOf S.schema S.store d).length : Int)])) fun _ _ h => g.committed h
  | refresh v m x =>
    have e : Vauowd.step S (.refresh v m x) = Vauowd.onMerge S v m x fun k byRow y => match tryMerge S k byRow y with | .merged d => (Tw.refreshed S k d, [0, ((changesOf S.schema (sessionOf S k).mine d).length : Int)]) | r => (S, refusedRow r) := by
      rw [step_refresh]
      congr 1
      funext k byRow y
      cases e : tryMerge S k byRow y with
      | merged d =>
        rw [refresh_state e]
        show (Tw.refreshed S k d, [0, ((changesOf S.schema (sessionOf S k).mine (sessionOf (withSession S k { base := S.store, mine := d }) k).mine).length : Int)]) = _
        rw [with_mine]
      | clash c => rw [refresh_none (fun d z => by rw [e] at z; cases z)]
      | broken b => rw [refresh_none (fun d z => by rw [e] at z; cases z)]
    rw [e]
    exact on_merge_st g (f := fun k d => (Tw.refreshed S k d, [0, ((changesOf S.schema (sessionOf S k).mine d).length : Int)])) fun _ _ h => g.refreshed h
  | tables v => exact g
  | orders m => exact g
  | size => exact g
end Tw
namespace Tw
open PySem PySem.Spec PyProof.Rows L2
open VauowBase (findRow Db tableAt dbData Schema brokenIn dbFrom emptyDb writeSchema)
open Vauowd (State Session sessionOf withSession step isSession isMode isChoices onGood noBytes toInts tryMerge refusedRow clashesOf mergedBy choicesOf mergeWith changesOf commitBy)

variable {P : Program} {w : World} {K : PySem.W.Frag} {mg : Str → Option Value} {base : Heap} {ad : Ads}
/-- commits one behind another -/
def behind (byRow : Bool) : State → List Nat → Option State
  | S, [] => some S
  | S, n :: l => (commitBy S n byRow []).bind fun s => behind byRow s l
theorem commit_no {S : State} {n : Nat} {m : Int} (hn : n = 0 ∨ n = 1) (hm : (m == 0 || m == 1) = true) : step S (.commit n m []) = (match commitBy S n (m == 0) [] with
    | none => (S, refusedRow (tryMerge S n (m == 0) []))
    | some t => (t, [0, ((changesOf S.schema S.store t.store).length : Int)])) := by
  have hs : isSession (n : Int) = true := by rcases hn with rfl | rfl <;> rfl
  rw [step_commit, on_merged (n := n) ⟨hs, hm, rfl⟩ rfl]; rfl
theorem refused_head (r : Vauowd.Merge) (h : ∀ d, r ≠ .merged d) : ∃ i l, refusedRow r = i :: l ∧ i ≠ 0 := by
  cases r with
  | clash n => exact ⟨1, _, rfl, by decide⟩
  | broken b => exact ⟨2, _, rfl, by decide⟩
  | merged d => exact absurd rfl (h d)
theorem commit_schema {S T : State} {n : Nat} {b : Bool} {y : List Nat} (h : commitBy S n b y = some T) : T.schema = S.schema := by
  cases e : tryMerge S n b y with
  | merged d =>
    rw [commit_state e] at h
    rw [← Option.some.inj h, committed_schema]
  | clash c => rw [commit_none (fun d z => by rw [e] at z; cases z)] at h; cases h
  | broken c => rw [commit_none (fun d z => by rw [e] at z; cases z)] at h; cases h
abbrev s_Held_store_behind : Stmt := inClass (top 123) 17
theorem sc_Held_store_behind : FnScope ["self", "order", "mode", "twin", "session"] ["self", "order", "mode"] (defScope s_Held_store_behind) := ⟨rfl, rfl, rfl, by decide +kernel, rfl, by decide +kernel, by decide +kernel⟩
def sp_store_behind (ad : Ads) : Sp := fun vs H Q _ => ∃ (a ta : Addr) (M : List Addr) (ba oa : Addr) (S : State) (m : Int) (l : List Nat), vs = [.ref a, .ref ta, .int m] ∧ HeldR ad M H a ba oa S ∧ GSt S ∧ H ta = some (.tup (l.map fun n => V.int (n : Nat))) ∧ (∀ n ∈ l, n = 0 ∨ n = 1) ∧ (m == 0 || m == 1) = true ∧
  (behind (m == 0) S l = none → ∀ H', Same H H' → Q .non H') ∧
  (∀ S', behind (m == 0) S l = some S' → ∀ tl H', Same H H' → DbAt H' tl S'.store → DO S.schema S'.store → Q (.ref tl) H')
theorem ok_store_behind {f : Addr} {fd : FuncData} (T : Tp K mg ad) (m_Held_twin : Mc P w K mg base CX0 4 ad.Held "twin" ["self"] (sp_twin ad)) (m_Held_commit : Mc P w K mg base CX0 6 ad.Held "commit" ["self", "session", "mode", "choices"] (sp_commit ad))
    (F : Fun K "store_behind" "Held.store_behind" s_Held_store_behind f fd) : FnOk P w K mg base CX0 7 f fd ["self", "order", "mode"] (sp_store_behind ad) := by
  refine F.ok sc_Held_store_behind (fun vs H Q E h => ?_) (fun cdv A outer s H vs Q E hr h => ⟨_, (pss_cons (ps_set (i := 3) sc_Held_store_behind.nd rfl (.inl rfl) (pe_mc0 (pv 0) T.cl_Held m_Held_twin (hr.mono (by decide)) pass0)) (pss_cons (ps_forO PassesOwn.never rfl (pi_tup (pv 1)) (pg_name (i := 4) sc_Held_store_behind.nd rfl (.inl rfl)) (pss_one (ps_if (pt_cmpR op_ne (pe_ix ix_list (pe_mc (pv 3) T.cl_Held m_Held_commit (hr.mono (by decide)) pass0 (pa_cons (pv 4) (pa_cons (pv 2) (pa_cons (pe_lst pa_nil) pa_nil)))) pe_int (fun _ _ => rfl)) pe_int (nomark _)) (pss_one (ps_ret pe_non)) pss_nil))) (pss_one (ps_ret (pe_fl T.cl_Held T.n_Held_store (pv 3)))))), ?_⟩)
  · obtain ⟨a, ta, M, ba, oa, S, m, l, rfl, _⟩ := h
    rfl
  obtain ⟨a, ta, M, ba, oa, S, m, l, rfl, hd, g, hta, hl, hm, k1, k2⟩ := h
  obtain ⟨dx, sl, sa, b0, b1, o0, o1, h1, h2, h3, h4, h5, h6, h7, h8, h9⟩ := id hd.ex
  walk_at "rd"
  intro x xb xo H1 s1 hx nx nxb nxo
  walk_at "rd"
  refine ⟨_, rfl, ta, rfl, ⟨_, SqT.of (s1 _ _ hta)⟩, for_it (walk_tup (xs := l.map fun n => V.int (n : Nat))) (fun i σ H' => Nx (∃ (x4 : Option V) (M' : List Addr) (xb xo : Addr) (S' : State), σ = [some (.ref a), some (.ref ta), some (.int m), some (.ref x), x4] ∧ Same H H' ∧ HeldR ad M' H' x xb xo S' ∧ GSt S' ∧ (∀ y ∈ M', H y = none) ∧ S'.schema = S.schema ∧ behind (m == 0) S l = behind (m == 0) S' (l.drop i))) ⟨_, _, _, _, _, rfl, s1, hx, g, fun y hy => ?_, rfl, rfl⟩ (fun i σ H' _ q => ?_) ?_ ?_⟩
  · simp only [List.mem_cons, List.not_mem_nil, or_false] at hy
    rcases hy with rfl | rfl | rfl
    · exact nx
    · exact nxb
    · exact nxo
  · obtain ⟨_, _, _, _, _, _, s', _⟩ := q.h
    exact SqT.of (s' _ _ hta)
  · rintro i v σ H2 H2' hi ⟨x4, M', yb, yo, S', rfl, s2, hx2, g2, hM, es, eb⟩ ⟨rfl, hv⟩
    obtain ⟨n, hn, rfl⟩ := map_get hv
    have hn2 := hl n (List.mem_of_getElem? hn)
    have ed : l.drop i = n :: l.drop (i + 1) := by
      obtain ⟨hjl, he3⟩ := List.getElem?_eq_some_iff.mp hn
      rw [← he3]; exact List.drop_eq_getElem_cons hjl
    rw [ed] at eb
    have eb : behind (m == 0) S l = (commitBy S' n (m == 0) []).bind fun s => behind (m == 0) s (l.drop (i + 1)) := eb
    obtain ⟨dy, tl, ta', c0, c1, d0, d1, f1, _⟩ := id hx2.ex
    walk_at "rd"
    intro e ne
    obtain ⟨s3, he⟩ := al2 (o := .lst (([] : List Int).map V.int)) ne
    have he' : (HO.lst [] : HO) = .lst (([] : List Int).map V.int) := rfl
    rw [he']
    generalize upd H2' e (.lst (([] : List Int).map V.int)) = H3 at s3 he ⊢
    have hx3 := hx2.same s3
    have hz : ([] : List Int).length ≤ 5000 := by decide
    have hnm : V.int ((n : Nat) : Int) = V.int (n : Int) := rfl
    walk_at "rd"
    have gT := g2.step (.commit n m [])
    have s23 := s2.trans s3
    have nH : ∀ {b : Addr}, H3 b = none → H b = none := fun {b} e => fresh_of (as := []) (Kp.of_same s23) e (by simp)
    have kS : ∀ {H4 : Hp}, Kp [x, yb, yo] H3 H4 → Same H H4 := fun {H4} k b u e => k b u (fun z => by
      simp only [List.mem_cons, List.not_mem_nil, or_false] at z
      rcases z with rfl | rfl | rfl
      · rw [hM _ hx2.ma] at e; cases e
      · rw [hM _ hx2.mb] at e; cases e
      · rw [hM _ hx2.mo] at e; cases e) (s23 _ _ e)
    rw [commit_no hn2 hm] at gT ⊢
    cases ec : commitBy S' n (m == 0) [] with
    | none =>
      rw [ec] at eb
      intro r H4 M4 yb4 yo4 hN nr rM hr4
      have hr4 : H4 r = some (.lst ((refusedRow (tryMerge S' n (m == 0) [])).map V.int)) := hr4
      obtain ⟨j, l', ej, nj⟩ := refused_head (tryMerge S' n (m == 0) []) (fun d z => by rw [commit_state z] at ec; cases ec)
      rw [ej] at hr4
      have hj : atI ((j :: l').map V.int) ((0 : Nat) : Int) = some (V.int j) := atI_nat rfl
      have hj : atI ((j :: l').map V.int) 0 = some (V.int j) := hj
      walk_at "rd"
      refine ifnd (fun c => ?_) (fun c => absurd (by injection c) nj)
      walk_at "rd"
      exact k1 eb H4 (kS hN.kp)
    | some S2 =>
      rw [ec] at eb gT
      intro r H4 M4 yb4 yo4 hN nr rM hr4
      have hr4 : H4 r = some (.lst ([0, ((changesOf S'.schema S'.store S2.store).length : Int)].map V.int)) := hr4
      have hN : Nxt ad H3 M' x yb yo H4 M4 yb4 yo4 S2 := hN
      have hj : atI ([0, ((changesOf S'.schema S'.store S2.store).length : Int)].map V.int) 0 = some (V.int 0) := rfl
      walk_at "rd"
      refine ⟨⟨_, M4, yb4, yo4, S2, rfl, kS hN.kp, hN.hd, gT, fun y hy => ?_, (commit_schema ec).trans es, eb⟩⟩
      rcases hN.nw y hy with hy | hy
      · exact hM y hy
      · exact nH hy
  · rintro σ H2 ⟨x4, M', yb, yo, S', rfl, s2, hx2, g2, hM, es, eb⟩
    rw [List.length_map, List.drop_length] at eb
    obtain ⟨dy, tl, ta', c0, c1, d0, d1, f1, _, _, _, f5, _⟩ := id hx2.ex
    walk_at "rd"
    have := k2 S' eb ta' H2 s2 (f5.same msk_same) (by rw [← es]; exact g2.st)
    exact this
end Tw
namespace Tw
open PySem PySem.Spec PyProof.Rows L2
open VauowBase (findRow Db tableAt dbData Schema brokenIn dbFrom emptyDb writeSchema)
open Vauowd (State Session sessionOf withSession step isSession isMode isChoices onGood noBytes toInts tryMerge refusedRow clashesOf mergedBy choicesOf mergeWith changesOf commitBy)

variable {P : Program} {w : World} {K : PySem.W.Frag} {mg : Str → Option Value} {base : Heap} {ad : Ads}
theorem behind2 (b : Bool) (S : State) (i j : Nat) : behind b S [i, j] = (commitBy S i b []).bind fun a => commitBy a j b [] := by
  show (commitBy S i b []).bind (fun s => (commitBy s j b []).bind fun s => some s) = _
  cases commitBy S i b [] with
  | none => rfl
  | some a =>
    show (commitBy a j b []).bind (fun s => some s) = commitBy a j b []
    cases commitBy a j b [] <;> rfl
theorem orders_ans (S : State) (b : Bool) : Vauowd.ordersRow S b = match behind b S [0, 1], behind b S [1, 0] with
    | some x, some y => [if x.store == y.store then 1 else 0]
    | _, _ => [2] := by
  rw [behind2, behind2]; rfl
abbrev s_Held_orders : Stmt := inClass (top 123) 16
theorem sc_Held_orders : FnScope ["self", "mode", "first", "second"] ["self", "mode"] (defScope s_Held_orders) := ⟨rfl, rfl, rfl, by decide +kernel, rfl, by decide +kernel, by decide +kernel⟩
def sp_orders (ad : Ads) : Sp := fun vs H Q _ => ∃ (a : Addr) (M : List Addr) (ba oa : Addr) (S : State) (m : Int), vs = [.ref a, .int m] ∧ HeldR ad M H a ba oa S ∧ GSt S ∧ HPost ad H M a ba oa S (step S (.orders m)).2 Q
theorem ok_orders {f : Addr} {fd : FuncData} (T : Tp K mg ad) (m_Held_store_behind : Mc P w K mg base CX0 7 ad.Held "store_behind" ["self", "order", "mode"] (sp_store_behind ad))
    (F : Fun K "orders" "Held.orders" s_Held_orders f fd) : FnOk P w K mg base CX0 8 f fd ["self", "mode"] (sp_orders ad) := by
  refine F.ok sc_Held_orders (fun vs H Q E h => ?_) (fun cdv A outer s H vs Q E hr h => ⟨_, (pss_cons (ps_if (pt_cmpR op_notIn_seq (pv 1) (pe_cst (by rfl) T.k_MODES) (by rfl)) (pss_one (ps_ret (pe_lst (pa_cons (pe_cst (by rfl) T.k_NO_MODE) pa_nil)))) pss_nil) (pss_cons (ps_set (i := 2) sc_Held_orders.nd rfl (.inl rfl) (pe_mc (pv 0) T.cl_Held m_Held_store_behind (hr.mono (by decide)) pass0 (pa_cons (pe_tup (pa_cons pe_int (pa_cons pe_int pa_nil))) (pa_cons (pv 1) pa_nil)))) (pss_cons (ps_set (i := 3) sc_Held_orders.nd rfl (.inl rfl) (pe_mc (pv 0) T.cl_Held m_Held_store_behind (hr.mono (by decide)) pass0 (pa_cons (pe_tup (pa_cons pe_int (pa_cons pe_int pa_nil))) (pa_cons (pv 1) pa_nil)))) (pss_cons (ps_if (PW.pt (pw_or (pt_cmpR op_isN (pv 2) pe_non (nomark _)) (pw_or1 (pt_cmpR op_isN (pv 3) pe_non (nomark _))))) (pss_one (ps_ret (pe_lst (pa_cons (pe_cst (by rfl) T.k_NOT_BOTH_ORDERS) pa_nil)))) pss_nil) (pss_one (ps_ret (pe_lst (pa_cons (pe_ifExp (pt_cmpR (op_eqDb hr.units) (pv 2) (pv 3) (nomark _)) (pe_cst (by rfl) T.k_SAME_STORE) (pe_cst (by rfl) T.k_UNLIKE_STORES)) pa_nil)))))))), ?_⟩)
  · obtain ⟨a, M, ba, oa, S, m, rfl, _⟩ := h
    rfl
  obtain ⟨a, M, ba, oa, S, m, rfl, hd, g, k⟩ := h
  have hM : SqT K H ad.MODES [V.int 0, V.int 1] := T.t_MODES H
  have eA : (step S (.orders m)).2 = if !(m == 0 || m == 1) then [-8] else Vauowd.ordersRow S (m == 0) := rfl
  rw [eA] at k
  obtain ⟨dx, sl, sa, b0, b1, o0, o1, h1, _⟩ := id hd.ex
  walk_at "rd"
  refine ifnb (b := inV (.int m) [V.int 0, V.int 1]) (fun c1 => ?_) (fun c1 => ?_)
  · rw [inV_two] at c1
    rw [c1] at k
    walk_at "rd"
    exact HPost.lst k hd (Same.refl _)
  rw [inV_two] at c1
  rw [c1] at k
  have k : HPost ad H M a ba oa S (Vauowd.ordersRow S (m == 0)) Q := k
  rw [orders_ans] at k
  walk_at "rd"
  intro t nt
  obtain ⟨s1, ht⟩ := al2 (o := .tup (([0, 1] : List Nat).map fun n => V.int (n : Nat))) nt
  have et : (HO.tup [V.int 0, V.int 1] : HO) = .tup (([0, 1] : List Nat).map fun n => V.int (n : Nat)) := rfl
  rw [et]
  generalize upd H t (.tup (([0, 1] : List Nat).map fun n => V.int (n : Nat))) = H1 at s1 ht ⊢
  have hd1 := hd.same s1
  have hl : ∀ n ∈ ([0, 1] : List Nat), n = 0 ∨ n = 1 := by simp
  have hl2 : ∀ n ∈ ([1, 0] : List Nat), n = 0 ∨ n = 1 := by simp
  walk_at "rd"
  refine ⟨fun e1 H2 s2 => ?_, fun S1 e1 t1 H2 s2 hd1' do1 => ?_⟩
  · have h12 := s2 _ _ (s1 _ _ h1)
    have hd2 := hd1.same s2
    walk_at "rd"
    intro t2 nt2
    obtain ⟨s3, ht3⟩ := al2 (o := .tup (([1, 0] : List Nat).map fun n => V.int (n : Nat))) nt2
    have et : (HO.tup [V.int 1, V.int 0] : HO) = .tup (([1, 0] : List Nat).map fun n => V.int (n : Nat)) := rfl
    rw [et]
    generalize upd H2 t2 (.tup (([1, 0] : List Nat).map fun n => V.int (n : Nat))) = H3 at s3 ht3 ⊢
    have hd3 := hd2.same s3
    walk_at "rd"
    refine ⟨fun e2 H4 s4 => ?_, fun S2 e2 u1 H4 s4 hd2' do2 => ?_⟩
    · have s04 := s1.trans (s2.trans (s3.trans s4))
      rw [e1, e2] at k
      walk_at "rd"
      exact HPost.lst k hd s04
    · have s04 := s1.trans (s2.trans (s3.trans s4))
      rw [e1, e2] at k
      walk_at "rd"
      exact HPost.lst k hd s04
  · have h12 := s2 _ _ (s1 _ _ h1)
    have hd2 := hd1.same s2
    walk_at "rd"
    intro t2 nt2
    obtain ⟨s3, ht3⟩ := al2 (o := .tup (([1, 0] : List Nat).map fun n => V.int (n : Nat))) nt2
    have et : (HO.tup [V.int 1, V.int 0] : HO) = .tup (([1, 0] : List Nat).map fun n => V.int (n : Nat)) := rfl
    rw [et]
    generalize upd H2 t2 (.tup (([1, 0] : List Nat).map fun n => V.int (n : Nat))) = H3 at s3 ht3 ⊢
    have hd3 := hd2.same s3
    walk_at "rd"
    refine ⟨fun e2 H4 s4 => ?_, fun S2 e2 u1 H4 s4 hd2' do2 => ?_⟩
    · have s04 := s1.trans (s2.trans (s3.trans s4))
      rw [e1, e2] at k
      walk_at "rd"
      exact HPost.lst k hd s04
    · have s04 := s1.trans (s2.trans (s3.trans s4))
      rw [e1, e2] at k
      have hda := hd1'.same (s3.trans s4)
      have hr1 := do1.ris
      have hr2 := do2.ris
      have hle : S1.store.length = S2.store.length := by rw [do1.len, do2.len]
      walk_at "rd"
      have k : HPost ad H M a ba oa S [if S1.store == S2.store then 1 else 0] Q := k
      refine ifd (fun c => ?_) (fun c => ?_)
      · rw [if_pos (beq_iff_eq.mpr c)] at k
        walk_at "rd"
        exact HPost.lst k hd s04
      · rw [if_neg (fun z => c (beq_iff_eq.mp z))] at k
        walk_at "rd"
        exact HPost.lst k hd s04
end Tw
namespace Tw
open PySem PySem.Spec PyProof.Rows L2
open VauowBase (findRow Db tableAt dbData Schema brokenIn dbFrom emptyDb writeSchema)
open Vauowd (State Session sessionOf withSession step isSession isMode isChoices onGood noBytes toInts)

variable {P : Program} {w : World} {K : PySem.W.Frag} {mg : Str → Option Value} {base : Heap} {ad : Ads}
/-- a call by its number, its single numbers and its list -/
inductive Is : Int → List Int → List Int → Vauowd.Call → Prop
  | load (l : List Int) : Is 0 [] l (.load l)
  | written : Is 1 [] [] .written
  | fill (l : List Int) : Is 2 [] l (.fill l)
  | set (v : Int) (l : List Int) : Is 3 [v] l (.set v l)
  | changed (v : Int) : Is 4 [v] [] (.changed v)
  | clashes (v m : Int) : Is 5 [v, m] [] (.clashes v m)
  | merged (v m : Int) (l : List Int) : Is 6 [v, m] l (.merged v m l)
  | commit (v m : Int) (l : List Int) : Is 7 [v, m] l (.commit v m l)
  | refresh (v m : Int) (l : List Int) : Is 8 [v, m] l (.refresh v m l)
  | tables (v : Int) : Is 9 [v] [] (.tables v)
  | orders (m : Int) : Is 10 [m] [] (.orders m)
  | size : Is 11 [] [] .size
abbrev s_answer_call : Stmt := top 127
theorem sc_answer_call : FnScope ["held", "call", "singles", "listed"] ["held", "call", "singles", "listed"] (defScope s_answer_call) := ⟨rfl, rfl, rfl, by decide +kernel, rfl, by decide +kernel, by decide +kernel⟩
def sp_answer_call (ad : Ads) : Sp := fun vs H Q _ => ∃ (a sa la : Addr) (M : List Addr) (ba oa : Addr) (S : State) (p : Int) (xs ls : List Int) (c : Vauowd.Call), vs = [.ref a, .int p, .ref sa, .ref la] ∧ HeldR ad M H a ba oa S ∧ GSt S ∧ Is p xs ls c ∧ H sa = some (.lst (xs.map V.int)) ∧ H la = some (.lst (ls.map V.int)) ∧ ls.length ≤ 5000 ∧ HPost ad H M a ba oa (step S c).1 (step S c).2 Q
theorem ok_answer_call {f : Addr} {fd : FuncData} (T : Tp K mg ad)
    (m_Held_load : Mc P w K mg base CX0 10 ad.Held "load" ["self", "numbers"] (sp_load ad))
    (m_Held_written : Mc P w K mg base CX0 4 ad.Held "written" ["self"] (sp_written ad))
    (m_Held_fill : Mc P w K mg base CX0 5 ad.Held "fill" ["self", "numbers"] (sp_fill ad))
    (m_Held_set_own : Mc P w K mg base CX0 5 ad.Held "set_own" ["self", "session", "numbers"] (sp_set_own ad))
    (m_Held_changed : Mc P w K mg base CX0 4 ad.Held "changed" ["self", "session"] (sp_changed ad))
    (m_Held_clashes : Mc P w K mg base CX0 5 ad.Held "clashes" ["self", "session", "mode"] (sp_clashes ad))
    (m_Held_merged : Mc P w K mg base CX0 6 ad.Held "merged" ["self", "session", "mode", "choices"] (sp_merged ad))
    (m_Held_commit : Mc P w K mg base CX0 6 ad.Held "commit" ["self", "session", "mode", "choices"] (sp_commit ad))
    (m_Held_refresh : Mc P w K mg base CX0 6 ad.Held "refresh" ["self", "session", "mode", "choices"] (sp_refresh ad))
    (m_Held_tables : Mc P w K mg base CX0 2 ad.Held "tables" ["self", "side"] (sp_tables ad))
    (m_Held_orders : Mc P w K mg base CX0 8 ad.Held "orders" ["self", "mode"] (sp_orders ad))
    (m_Held_size : Mc P w K mg base CX0 4 ad.Held "size" ["self"] (sp_size ad))
    (F : Fun K "answer_call" "answer_call" s_answer_call f fd) : FnOk P w K mg base CX0 11 f fd ["held", "call", "singles", "listed"] (sp_answer_call ad) := by
  refine F.ok sc_answer_call (fun vs H Q E h => ?_) (fun cdv A outer s H vs Q E hr h => ⟨_, (pss_cons (ps_if (pt_cmpR op_eq (pv 1) (pe_cst (by rfl) T.k_LOAD) (nomark _)) (pss_one (ps_ret (pe_mc (pv 0) T.cl_Held m_Held_load (hr.mono (by decide)) pass0 (pa_cons (pv 3) pa_nil)))) pss_nil) (pss_cons (ps_if (pt_cmpR op_eq (pv 1) (pe_cst (by rfl) T.k_WRITTEN) (nomark _)) (pss_one (ps_ret (pe_mc0 (pv 0) T.cl_Held m_Held_written (hr.mono (by decide)) pass0))) pss_nil) (pss_cons (ps_if (pt_cmpR op_eq (pv 1) (pe_cst (by rfl) T.k_FILL) (nomark _)) (pss_one (ps_ret (pe_mc (pv 0) T.cl_Held m_Held_fill (hr.mono (by decide)) pass0 (pa_cons (pv 3) pa_nil)))) pss_nil) (pss_cons (ps_if (pt_cmpR op_eq (pv 1) (pe_cst (by rfl) T.k_SET) (nomark _)) (pss_one (ps_ret (pe_mc (pv 0) T.cl_Held m_Held_set_own (hr.mono (by decide)) pass0 (pa_cons (pe_ix ix_list (pv 2) pe_int (fun _ _ => rfl)) (pa_cons (pv 3) pa_nil))))) pss_nil) (pss_cons (ps_if (pt_cmpR op_eq (pv 1) (pe_cst (by rfl) T.k_CHANGED) (nomark _)) (pss_one (ps_ret (pe_mc (pv 0) T.cl_Held m_Held_changed (hr.mono (by decide)) pass0 (pa_cons (pe_ix ix_list (pv 2) pe_int (fun _ _ => rfl)) pa_nil)))) pss_nil) (pss_cons (ps_if (pt_cmpR op_eq (pv 1) (pe_cst (by rfl) T.k_CLASHES) (nomark _)) (pss_one (ps_ret (pe_mc (pv 0) T.cl_Held m_Held_clashes (hr.mono (by decide)) pass0 (pa_cons (pe_ix ix_list (pv 2) pe_int (fun _ _ => rfl)) (pa_cons (pe_ix ix_list (pv 2) pe_int (fun _ _ => rfl)) pa_nil))))) pss_nil) (pss_cons (ps_if (pt_cmpR op_eq (pv 1) (pe_cst (by rfl) T.k_MERGED) (nomark _)) (pss_one (ps_ret (pe_mc (pv 0) T.cl_Held m_Held_merged (hr.mono (by decide)) pass0 (pa_cons (pe_ix ix_list (pv 2) pe_int (fun _ _ => rfl)) (pa_cons (pe_ix ix_list (pv 2) pe_int (fun _ _ => rfl)) (pa_cons (pv 3) pa_nil)))))) pss_nil) (pss_cons (ps_if (pt_cmpR op_eq (pv 1) (pe_cst (by rfl) T.k_COMMIT) (nomark _)) (pss_one (ps_ret (pe_mc (pv 0) T.cl_Held m_Held_commit (hr.mono (by decide)) pass0 (pa_cons (pe_ix ix_list (pv 2) pe_int (fun _ _ => rfl)) (pa_cons (pe_ix ix_list (pv 2) pe_int (fun _ _ => rfl)) (pa_cons (pv 3) pa_nil)))))) pss_nil) (pss_cons (ps_if (pt_cmpR op_eq (pv 1) (pe_cst (by rfl) T.k_REFRESH) (nomark _)) (pss_one (ps_ret (pe_mc (pv 0) T.cl_Held m_Held_refresh (hr.mono (by decide)) pass0 (pa_cons (pe_ix ix_list (pv 2) pe_int (fun _ _ => rfl)) (pa_cons (pe_ix ix_list (pv 2) pe_int (fun _ _ => rfl)) (pa_cons (pv 3) pa_nil)))))) pss_nil) (pss_cons (ps_if (pt_cmpR op_eq (pv 1) (pe_cst (by rfl) T.k_TABLES) (nomark _)) (pss_one (ps_ret (pe_mc (pv 0) T.cl_Held m_Held_tables (hr.mono (by decide)) pass0 (pa_cons (pe_ix ix_list (pv 2) pe_int (fun _ _ => rfl)) pa_nil)))) pss_nil) (pss_cons (ps_if (pt_cmpR op_eq (pv 1) (pe_cst (by rfl) T.k_ORDERS) (nomark _)) (pss_one (ps_ret (pe_mc (pv 0) T.cl_Held m_Held_orders (hr.mono (by decide)) pass0 (pa_cons (pe_ix ix_list (pv 2) pe_int (fun _ _ => rfl)) pa_nil)))) pss_nil) (pss_one (ps_ret (pe_mc0 (pv 0) T.cl_Held m_Held_size (hr.mono (by decide)) pass0)))))))))))))), ?_⟩)
  · obtain ⟨a, sa, la, M, ba, oa, S, p, xs, ls, c, rfl, _⟩ := h
    rfl
  obtain ⟨a, sa, la, M, ba, oa, S, p, xs, ls, c, rfl, hd, g, hc, hsa, hla, hlen, k⟩ := h
  obtain ⟨dx, sl, st, b0, b1, o0, o1, h1, _⟩ := id hd.ex
  cases hc with
  | load l => walk_at "rd"; exact k
  | written => walk_at "rd"; exact k
  | fill l => walk_at "rd"; exact k
  | set v l =>
    have e0 : atI ([v].map V.int) 0 = some (V.int v) := rfl
    walk_at "rd"; exact k
  | changed v =>
    have e0 : atI ([v].map V.int) 0 = some (V.int v) := rfl
    walk_at "rd"; exact k
  | clashes v m =>
    have e0 : atI ([v, m].map V.int) 0 = some (V.int v) := rfl
    have e1 : atI ([v, m].map V.int) 1 = some (V.int m) := rfl
    have eS : (step S (.clashes v m)).1 = S := by
      show (if !(v == 0 || v == 1) then (S, [-3]) else if !(m == 0 || m == 1) then (S, [-8]) else (S, Vauowd.clashesRow S v.toNat (m == 0))).1 = S
      split
      · rfl
      · split <;> rfl
    rw [eS] at k
    walk_at "rd"; exact k
  | merged v m l =>
    have e0 : atI ([v, m].map V.int) 0 = some (V.int v) := rfl
    have e1 : atI ([v, m].map V.int) 1 = some (V.int m) := rfl
    walk_at "rd"; exact k
  | commit v m l =>
    have e0 : atI ([v, m].map V.int) 0 = some (V.int v) := rfl
    have e1 : atI ([v, m].map V.int) 1 = some (V.int m) := rfl
    walk_at "rd"; exact k
  | refresh v m l =>
    have e0 : atI ([v, m].map V.int) 0 = some (V.int v) := rfl
    have e1 : atI ([v, m].map V.int) 1 = some (V.int m) := rfl
    walk_at "rd"; exact k
  | tables v =>
    have e0 : atI ([v].map V.int) 0 = some (V.int v) := rfl
    walk_at "rd"; exact k
  | orders m =>
    have e0 : atI ([m].map V.int) 0 = some (V.int m) := rfl
    walk_at "rd"; exact k
  | size => walk_at "rd"; exact k
end Tw
namespace Tw
open PySem PySem.Spec PyProof.Rows L2
open Vauowd (State step)

local macro_rules | `(tactic| walk_at "side") => `(tactic| exact Or.inl (by assumption))
variable {P : Program} {w : World} {K : PySem.W.Frag} {mg : Str → Option Value} {base : Heap} {ad : Ads}
def snL : List Nat := [0, 0, 0, 1, 1, 2, 2, 2, 2, 1, 1, 0]
def hlL : List Bool := [true, false, true, true, false, false, true, true, true, false, false, false]
/-- how many numbers and lists a call has -/
theorem shape_ok {p : Int} {n k : Nat} (h : PyVauowd.shape p = some (n, k)) : ∃ j : Nat, p = (j : Int) ∧ snL[j]? = some n ∧ n ≤ 2 ∧ ((hlL[j]? = some false ∧ k = 0) ∨ (hlL[j]? = some true ∧ k = 1)) := by
  unfold PyVauowd.shape at h
  repeat' split at h
  all_goals first | cases h | skip
  all_goals rename_i e
  · exact ⟨0, e, rfl, by decide, .inr ⟨rfl, rfl⟩⟩
  · exact ⟨1, e, rfl, by decide, .inl ⟨rfl, rfl⟩⟩
  · exact ⟨2, e, rfl, by decide, .inr ⟨rfl, rfl⟩⟩
  · exact ⟨3, e, rfl, by decide, .inr ⟨rfl, rfl⟩⟩
  · exact ⟨4, e, rfl, by decide, .inl ⟨rfl, rfl⟩⟩
  · exact ⟨5, e, rfl, by decide, .inl ⟨rfl, rfl⟩⟩
  · exact ⟨6, e, rfl, by decide, .inr ⟨rfl, rfl⟩⟩
  · exact ⟨7, e, rfl, by decide, .inr ⟨rfl, rfl⟩⟩
  · exact ⟨8, e, rfl, by decide, .inr ⟨rfl, rfl⟩⟩
  · exact ⟨9, e, rfl, by decide, .inl ⟨rfl, rfl⟩⟩
  · exact ⟨10, e, rfl, by decide, .inl ⟨rfl, rfl⟩⟩
  · exact ⟨11, e, rfl, by decide, .inl ⟨rfl, rfl⟩⟩
/-- the first of some calls -/
theorem calls_first {f : Nat} {p : Int} {r : List Int} {cs : List (List (List Int))} (h : PyFlat.calls PyVauowd.shape f (p :: r) = some cs) :
    ∃ (j n : Nat) (f' : Nat) (cs' : List (List (List Int))), p = (j : Int) ∧ snL[j]? = some n ∧ n ≤ 2 ∧ n ≤ r.length ∧
      ((hlL[j]? = some false ∧ cs = [p :: r.take n] :: cs' ∧ PyFlat.calls PyVauowd.shape f' (r.drop n) = some cs') ∨
       (hlL[j]? = some true ∧ ∃ c : Nat, r[n]? = some (c : Int) ∧ n + 1 + c ≤ r.length ∧ cs = [p :: r.take n, (r.drop (n + 1)).take c] :: cs' ∧ PyFlat.calls PyVauowd.shape f' (r.drop (n + 1 + c)) = some cs')) := by
  cases f with
  | zero => cases h
  | succ f =>
    have h : (match PyFlat.call PyVauowd.shape (p :: r) with
      | none => none
      | some (c, t) => match PyFlat.calls PyVauowd.shape f t with
        | none => none
        | some cs => some (c :: cs)) = some cs := h
    cases ec : PyFlat.call PyVauowd.shape (p :: r) with
    | none => rw [ec] at h; cases h
    | some ct =>
      obtain ⟨c, t⟩ := ct
      rw [ec] at h
      have h : (match PyFlat.calls PyVauowd.shape f t with
        | none => none
        | some cs => some (c :: cs)) = some cs := h
      cases es : PyFlat.calls PyVauowd.shape f t with
      | none => rw [es] at h; cases h
      | some cs' =>
        rw [es] at h
        have hcs : c :: cs' = cs := Option.some.inj h
        have ec : (match PyVauowd.shape p with
          | none => none
          | some (n, k) => if r.length < n then none else match PyFlat.rows k (r.drop n) with
            | none => none
            | some (xs, t) => some ((p :: r.take n) :: xs, t)) = some (c, t) := ec
        cases e1 : PyVauowd.shape p with
        | none => rw [e1] at ec; cases ec
        | some nk =>
          obtain ⟨n, k⟩ := nk
          rw [e1] at ec
          have ec : (if r.length < n then none else match PyFlat.rows k (r.drop n) with
            | none => none
            | some (xs, t) => some ((p :: r.take n) :: xs, t)) = some (c, t) := ec
          obtain ⟨j, rfl, e2, e3, e4⟩ := shape_ok e1
          by_cases hn : r.length < n
          · rw [if_pos hn] at ec; cases ec
          rw [if_neg hn] at ec
          refine ⟨j, n, f, cs', rfl, e2, e3, by omega, ?_⟩
          rcases e4 with ⟨e4, rfl⟩ | ⟨e4, rfl⟩
          · left
            have ec := Option.some.inj ec
            injection ec with ec1 ec2
            exact ⟨e4, by rw [← hcs, ← ec1], by rw [ec2]; exact es⟩
          · right
            refine ⟨e4, ?_⟩
            have hr : PyFlat.rows 1 (r.drop n) = (match PyFlat.row (r.drop n) with
              | none => none
              | some (x, s) => some ([x], s)) := by
              show (match PyFlat.row (r.drop n) with
              | none => none
              | some (x, s) => match PyFlat.rows 0 s with
                | none => none
                | some (xs, t) => some (x :: xs, t)) = _
              cases PyFlat.row (r.drop n) with
              | none => rfl
              | some xs => rfl
            rw [hr] at ec
            cases ed : r.drop n with
            | nil => rw [ed] at ec; cases ec
            | cons z r2 =>
              rw [ed] at ec
              have hz : r[n]? = some z := by
                have : (r.drop n)[0]? = some z := by rw [ed]; rfl
                rw [List.getElem?_drop] at this; exact this
              have hr2 : r2 = r.drop (n + 1) := by
                have := congrArg List.tail ed
                rw [List.tail_drop] at this
                exact this.symm
              have erow : PyFlat.row (z :: r2) = if 0 ≤ z ∧ z.toNat ≤ r2.length then some (r2.take z.toNat, r2.drop z.toNat) else none := rfl
              rw [erow] at ec
              by_cases hz2 : 0 ≤ z ∧ z.toNat ≤ r2.length
              · rw [if_pos hz2] at ec
                have ec := Option.some.inj ec
                injection ec with ec1 ec2
                have hl2 : r2.length = r.length - (n + 1) := by rw [hr2, List.length_drop]
                have hnl : n < r.length := (List.getElem?_eq_some_iff.mp hz).1
                refine ⟨z.toNat, by rw [hz]; congr 1; omega, by omega, by rw [← hcs, ← ec1, hr2], ?_⟩
                rw [← List.drop_drop, ← hr2, ec2]; exact es
              · rw [if_neg hz2] at ec; cases ec
/-- a call's number, its numbers, its list -/
def tr : List (List Int) → Int × List Int × List Int
  | (p :: xs) :: ls :: _ => (p, xs, ls)
  | [p :: xs] => (p, xs, [])
  | _ => (0, [], [])
structure CallAt (N : Addr → Prop) (H : Hp) (v : V) (c : List (List Int)) : Prop where
  ex : ∃ t sa la, v = .ref t ∧ H t = some (.tup [.int (tr c).1, .ref sa, .ref la]) ∧ H sa = some (.lst ((tr c).2.1.map V.int)) ∧ H la = some (.lst ((tr c).2.2.map V.int)) ∧ N sa ∧ N la
theorem CallAt.same {N N' : Addr → Prop} (hn : ∀ b, N b → N' b) {H H' : Hp} (s : Same H H') {v : V} {c : List (List Int)} (h : CallAt N H v c) : CallAt N' H' v c := by
  obtain ⟨t, sa, la, e, h1, h2, h3, h4, h5⟩ := h.ex
  exact ⟨t, sa, la, e, s _ _ h1, s _ _ h2, s _ _ h3, hn _ h4, hn _ h5⟩
theorem CallAt.over {N : Addr → Prop} {H : Hp} {q : Addr} {xs : List V} {o : HO} (hq : H q = some (.lst xs)) (hn : ¬ N q) {v : V} {c : List (List Int)} (h : CallAt N H v c) : CallAt N (upd H q o) v c := by
  obtain ⟨t, sa, la, e, h1, h2, h3, h4, h5⟩ := h.ex
  refine ⟨t, sa, la, e, ?_, ?_, ?_, h4, h5⟩
  · rw [upd_ne (fun z => by rw [z, hq] at h1; cases h1)]; exact h1
  · rw [upd_ne (fun z => hn (by rw [← z]; exact h4))]; exact h2
  · rw [upd_ne (fun z => hn (by rw [← z]; exact h5))]; exact h3
theorem int_nat (j : Nat) : V.int ((j : Nat) : Int) = V.int (j : Int) := rfl
abbrev s_read_calls : Stmt := top 14
theorem sc_read_calls : FnScope ["calls", "found", "place", "call", "end", "singles", "listed", "start"] ["calls"] (defScope s_read_calls) := ⟨rfl, rfl, rfl, by decide +kernel, rfl, by decide +kernel, by decide +kernel⟩
def sp_read_calls (K : PySem.W.Frag) : Sp := fun vs H Q _ => ∃ (la : Addr) (l : List Int) (f : Nat) (cs : List (List (List Int))), vs = [.ref la] ∧ SqL K H la (l.map V.int) ∧ PyFlat.calls PyVauowd.shape f l = some cs ∧ l.length ≤ 17000 ∧
  ∀ q ws H', H q = none → Same H H' → H' q = some (.lst ws) → Paired (CallAt (fun b => H b = none) H') ws cs → Q (.ref q) H'
theorem ok_read_calls {f : Addr} {fd : FuncData} (T : Tp K mg ad) (F : Fun K "read_calls" "read_calls" s_read_calls f fd) : FnOk P w K mg base CX0 1 f fd ["calls"] (sp_read_calls K) := by
  refine F.ok sc_read_calls (fun vs H Q E h => ?_) (fun cdv A outer s H vs Q E hr h => ⟨_, (pss_cons (ps_set (i := 1) sc_read_calls.nd rfl (.inl rfl) (pe_lst pa_nil)) (pss_cons (ps_set (i := 2) sc_read_calls.nd rfl (.inl rfl) pe_int) (pss_cons (ps_whileO PassesOwn.never (pt_cmpR op_lt (pv 2) (pe_callB call_len_seq (by rfl) T.b_len (by decide +kernel) (pa_cons (pv 0) pa_nil)) (nomark _)) (pss_cons (ps_set (i := 3) sc_read_calls.nd rfl (.inl rfl) (pe_ix ix_list (pv 0) (pv 2) (fun _ _ => rfl))) (pss_cons (ps_set (i := 4) sc_read_calls.nd rfl (.inl rfl) (pe_op op_add (pe_op op_add (pv 2) pe_int) (pe_ix ix_tup (pe_cst (by rfl) T.k_SINGLE_NUMBERS) (pv 3) (fun _ _ => rfl)))) (pss_cons (ps_set (i := 5) sc_read_calls.nd rfl (.inl rfl) (pe_slice sl_list (pv 0) (po_some (pe_op op_add (pv 2) pe_int)) (po_some (pv 4)))) (pss_cons (ps_set (i := 6) sc_read_calls.nd rfl (.inl rfl) (pe_lst pa_nil)) (pss_cons (ps_if (pt_val (pe_ix ix_tup (pe_cst (by rfl) T.k_HAS_LIST) (pv 3) (fun _ _ => rfl))) (pss_cons (ps_set (i := 7) sc_read_calls.nd rfl (.inl rfl) (pe_op op_add (pv 4) pe_int)) (pss_cons (ps_set (i := 4) sc_read_calls.nd rfl (.inl rfl) (pe_op op_add (pv 7) (pe_ix ix_list (pv 0) (pv 4) (fun _ _ => rfl)))) (pss_one (ps_set (i := 6) sc_read_calls.nd rfl (.inl rfl) (pe_slice sl_list (pv 0) (po_some (pv 7)) (po_some (pv 4))))))) pss_nil) (pss_cons (ps_expr (pe_bm PySem.F.plainAttrs_list PySem.F.slot_list_append PySem.F.type_list_append mt_appL (pv 1) (pa_cons (pe_tup (pa_cons (pv 3) (pa_cons (pv 5) (pa_cons (pv 6) pa_nil)))) pa_nil))) (pss_one (ps_set (i := 2) sc_read_calls.nd rfl (.inl rfl) (pv 4)))))))))) (pss_one (ps_ret (pv 1)))))), ?_⟩)
  · obtain ⟨la, l, f, cs, rfl, _⟩ := h
    rfl
  obtain ⟨la, l, f0, cs, rfl, hla, hc, hlen, k⟩ := h
  have hll : (l.map V.int).length = l.length := List.length_map ..
  walk_at "rd"
  intro q nq
  obtain ⟨s1, hq⟩ := al2 (o := .lst []) nq
  generalize upd H q (.lst []) = H1 at s1 hq ⊢
  walk_at "rd"
  refine ⟨⟨fun m σ H' => ∃ (place : Nat) (x3 x4 x5 x6 x7 : Option V) (ws : List V) (done rest : List (List (List Int))) (f : Nat), σ = [some (.ref la), some (.ref q), some (.int (place : Int)), x3, x4, x5, x6, x7] ∧ place ≤ l.length ∧ m = l.length - place ∧ Same H H' ∧ H' q = some (.lst ws) ∧ Paired (CallAt (fun b => H b = none ∧ b ≠ q) H') ws done ∧ done ++ rest = cs ∧ PyFlat.calls PyVauowd.shape f (l.drop place) = some rest ∧ ws.length ≤ place, ⟨_, 0, _, _, _, _, _, [], [], cs, f0, rfl, Nat.zero_le _, rfl, s1, hq, .nil, rfl, hc, Nat.zero_le _⟩, ?_⟩⟩
  rintro m σ H2 ⟨place, x3, x4, x5, x6, x7, ws, done, rest, f, rfl, hp, rfl, s2, hq2, pr, ed, hc2, hw⟩
  have hla2 := s2.seq hla
  walk_at "rd"
  refine ifd (fun c1 => ?_) (fun c1 => ?_)
  · have c1 : place < l.length := by rw [hll] at c1; omega
    refine wnx ?_
    obtain ⟨p, hpp⟩ : ∃ p, l[place]? = some p := ⟨l[place]'c1, by simp [c1]⟩
    have edr : l.drop place = p :: l.drop (place + 1) := by
      obtain ⟨hjl, he3⟩ := List.getElem?_eq_some_iff.mp hpp
      rw [← he3]; exact List.drop_eq_getElem_cons hjl
    rw [edr] at hc2
    obtain ⟨j, n, f', cs', rfl, e2, e3, e4, e5⟩ := calls_first hc2
    rw [List.length_drop] at e4
    have hpv : (l.map V.int)[place]? = some (V.int ((j : Nat) : Int)) := by rw [List.getElem?_map, hpp]; rfl
    have hSN : SqT K H2 ad.SINGLE_NUMBERS (snL.map fun n => V.int (n : Nat)) := T.t_SINGLE_NUMBERS H2
    have hsn : (snL.map fun n => V.int (n : Nat))[j]? = some (V.int ((n : Nat) : Int)) := by rw [List.getElem?_map, e2]; rfl
    walk_at "rd"
    rw [show (fun i j : Int => V.int (i + j)) ((place : Int) + 1) (n : Int) = V.int ((place + 1 + n : Nat) : Int) from rfl]
    intro sa nsa
    obtain ⟨s3, hsa⟩ := al2 (o := .lst (cutV (l.map V.int) (some ((place : Int) + 1)) (some ((place : Int) + 1 + (n : Int))))) nsa
    generalize upd H2 sa (.lst (cutV (l.map V.int) (some ((place : Int) + 1)) (some ((place : Int) + 1 + (n : Int))))) = H3 at s3 hsa ⊢
    have hsa : H3 sa = some (.lst (cutV (l.map V.int) (some ((place + 1 : Nat) : Int)) (some ((place + 1 + n : Nat) : Int)))) := hsa
    have nsaH : H sa = none := fresh_of (as := []) (Kp.of_same s2) nsa (by simp)
    have saq : sa ≠ q := fun z => by rw [z, hq2] at nsa; cases nsa
    rw [cut_ints l (place + 1) n (by omega)] at hsa
    have hla3 := s3.seq hla2
    have hq3 := s3 _ _ hq2
    walk_at "rd"
    intro ea nea
    obtain ⟨s4, hea⟩ := al2 (o := .lst []) nea
    generalize upd H3 ea (.lst []) = H4 at s4 hea ⊢
    have nH : ∀ {b : Addr}, H4 b = none → H b = none ∧ b ≠ q := fun {b} e => ⟨fresh_of (as := []) (Kp.of_same ((s2.trans s3).trans s4)) e (by simp), fun z => by rw [z, s4 _ _ hq3] at e; cases e⟩
    have neaH : H ea = none ∧ ea ≠ q := ⟨fresh_of (as := []) (Kp.of_same (s2.trans s3)) nea (by simp), fun z => by rw [z, hq3] at nea; cases nea⟩
    have hla4 := s4.seq hla3
    have hq4 := s4 _ _ hq3
    have hsa4 := s4 _ _ hsa
    have pr4 := Paired.mono (fun v c h => CallAt.same (fun _ z => z) (s3.trans s4) h) pr
    have hHL : SqT K H4 ad.HAS_LIST (hlL.map V.bl) := T.t_HAS_LIST H4
    have hlw : ws.length < sizeLine := Nat.lt_of_lt_of_le (by omega : ws.length < 17001) (by decide)
    rcases e5 with ⟨e6, rfl, e7⟩ | ⟨e6, c, e8, e9, rfl, e7⟩
    · have hhl : (hlL.map V.bl)[j]? = some (V.bl false) := by rw [List.getElem?_map, e6]; rfl
      walk_at "rd"
      intro t nt
      obtain ⟨s5, ht⟩ := al2 (o := .tup [V.int ((j : Nat) : Int), V.ref sa, V.ref ea]) nt
      generalize upd H4 t (.tup [V.int ((j : Nat) : Int), V.ref sa, V.ref ea]) = H5 at s5 ht ⊢
      have hq5 := s5 _ _ hq4
      walk_at "rd"
      intro H6 u6
      have s06 : Same H H6 := fun b u e => by rw [u6, upd_ne (ne_of_none e nq)]; exact s5 _ _ (s4 _ _ (s3 _ _ (s2 _ _ e)))
      have h6 : H6 q = some (.lst (ws ++ [V.ref t])) := by rw [u6, upd_same]
      have hca : CallAt (fun b => H b = none ∧ b ≠ q) H5 (.ref t) [((j : Nat) : Int) :: (l.drop (place + 1)).take n] := ⟨t, sa, ea, rfl, ht, s5 _ _ hsa4, s5 _ _ hea, ⟨nsaH, saq⟩, neaH⟩
      have pr6 : Paired (CallAt (fun b => H b = none ∧ b ≠ q) H6) (ws ++ [V.ref t]) (done ++ [[((j : Nat) : Int) :: (l.drop (place + 1)).take n]]) := by
        rw [u6]
        exact Paired.snoc (Paired.mono (fun v c h => CallAt.over hq5 (fun z => z.2 rfl) (CallAt.same (fun _ z => z) s5 h)) pr4) (CallAt.over hq5 (fun z => z.2 rfl) hca)
      rw [List.drop_drop] at e7
      walk_at "rd"
      refine ⟨l.length - (place + 1 + n), by omega, place + 1 + n, _, _, _, _, _, _, _, cs', f', rfl, by omega, rfl, s06, h6, pr6, ?_, e7, ?_⟩
      · rw [← ed, List.append_assoc]; rfl
      · rw [List.length_append]; show ws.length + 1 ≤ _; omega
    · have hhl : (hlL.map V.bl)[j]? = some (V.bl true) := by rw [List.getElem?_map, e6]; rfl
      rw [List.getElem?_drop] at e8
      rw [List.length_drop] at e9
      have hcv : (l.map V.int)[place + 1 + n]? = some (V.int ((c : Nat) : Int)) := by rw [List.getElem?_map, e8]; rfl
      walk_at "rd"
      intro lb nlb
      obtain ⟨s5, hlb⟩ := al2 (o := .lst (cutV (l.map V.int) (some (((place + 1 + n : Nat) : Int) + 1)) (some (((place + 1 + n : Nat) : Int) + 1 + (c : Int))))) nlb
      generalize upd H4 lb (.lst (cutV (l.map V.int) (some (((place + 1 + n : Nat) : Int) + 1)) (some (((place + 1 + n : Nat) : Int) + 1 + (c : Int))))) = H5 at s5 hlb ⊢
      have hlb : H5 lb = some (.lst (cutV (l.map V.int) (some ((place + 1 + n + 1 : Nat) : Int)) (some ((place + 1 + n + 1 + c : Nat) : Int)))) := hlb
      rw [cut_ints l (place + 1 + n + 1) c (by omega)] at hlb
      have hq5 := s5 _ _ hq4
      have nlbH := nH nlb
      walk_at "rd"
      intro t nt
      obtain ⟨s6, ht⟩ := al2 (o := .tup [V.int ((j : Nat) : Int), V.ref sa, V.ref lb]) nt
      generalize upd H5 t (.tup [V.int ((j : Nat) : Int), V.ref sa, V.ref lb]) = H6 at s6 ht ⊢
      have hq6 := s6 _ _ hq5
      walk_at "rd"
      intro H7 u7
      have s07 : Same H H7 := fun b u e => by rw [u7, upd_ne (ne_of_none e nq)]; exact s6 _ _ (s5 _ _ (s4 _ _ (s3 _ _ (s2 _ _ e))))
      have h7 : H7 q = some (.lst (ws ++ [V.ref t])) := by rw [u7, upd_same]
      have edd : ((l.drop (place + 1)).drop (n + 1)).take c = (l.drop (place + 1 + n + 1)).take c := by rw [List.drop_drop]; rfl
      have hca : CallAt (fun b => H b = none ∧ b ≠ q) H6 (.ref t) [((j : Nat) : Int) :: (l.drop (place + 1)).take n, ((l.drop (place + 1)).drop (n + 1)).take c] := by
        rw [edd]
        exact ⟨t, sa, lb, rfl, ht, s6 _ _ (s5 _ _ hsa4), s6 _ _ hlb, ⟨nsaH, saq⟩, nlbH⟩
      have pr7 : Paired (CallAt (fun b => H b = none ∧ b ≠ q) H7) (ws ++ [V.ref t]) (done ++ [[((j : Nat) : Int) :: (l.drop (place + 1)).take n, ((l.drop (place + 1)).drop (n + 1)).take c]]) := by
        rw [u7]
        exact Paired.snoc (Paired.mono (fun v c h => CallAt.over hq6 (fun z => z.2 rfl) (CallAt.same (fun _ z => z) (s5.trans s6) h)) pr4) (CallAt.over hq6 (fun z => z.2 rfl) hca)
      rw [List.drop_drop] at e7
      walk_at "rd"
      refine ⟨l.length - (place + 1 + n + 1 + c), by omega, place + 1 + n + 1 + c, _, _, _, _, _, _, _, cs', f', rfl, by omega, rfl, s07, h7, pr7, ?_, by rw [show place + 1 + n + 1 + c = place + 1 + (n + 1 + c) by omega]; exact e7, ?_⟩
      · rw [← ed, List.append_assoc]; rfl
      · rw [List.length_append]; show ws.length + 1 ≤ _; omega
  · have c1 : ¬ place < l.length := by rw [hll] at c1; omega
    rw [List.drop_eq_nil_of_le (by omega)] at hc2
    have er : rest = [] := by
      cases f with
      | zero => exact (Option.some.inj hc2).symm
      | succ f => exact (Option.some.inj hc2).symm
    rw [er, List.append_nil] at ed
    rw [ed] at pr
    walk_at "rd"
    exact k q ws H2 nq s2 hq2 (Paired.mono (fun v c h => CallAt.same (fun _ z => z.1) (Same.refl _) h) pr)
end Tw
namespace Tw
open PySem PySem.Spec PyProof.Rows L2
open Vauowd (State step)

local macro_rules | `(tactic| walk_at "side") => `(tactic| exact Or.inl (by assumption))
variable {P : Program} {w : World} {K : PySem.W.Frag} {mg : Str → Option Value} {base : Heap} {ad : Ads}
/-! ### the calls are the document's -/
theorem is_of {j n : Nat} {xs ls : List Int} (e2 : snL[j]? = some n) (hx : xs.length = n) :
    (hlL[j]? = some false → ∃ k, VauowdNeutral.callOf (PyVauowd.whole [((j : Nat) : Int) :: xs]) = some k ∧ Is ((j : Nat) : Int) xs [] k) ∧
    (hlL[j]? = some true → ∃ k, VauowdNeutral.callOf (PyVauowd.whole [((j : Nat) : Int) :: xs, ls]) = some k ∧ Is ((j : Nat) : Int) xs ls k) := by
  subst hx
  match j, e2 with
  | 0, e2 => match xs, e2 with
    | [], _ => exact ⟨fun h => absurd h (by decide), fun _ => ⟨_, rfl, .load ls⟩⟩
  | 1, e2 => match xs, e2 with
    | [], _ => exact ⟨fun _ => ⟨_, rfl, .written⟩, fun h => absurd h (by decide)⟩
  | 2, e2 => match xs, e2 with
    | [], _ => exact ⟨fun h => absurd h (by decide), fun _ => ⟨_, rfl, .fill ls⟩⟩
  | 3, e2 => match xs, e2 with
    | [v], _ => exact ⟨fun h => absurd h (by decide), fun _ => ⟨_, rfl, .set v ls⟩⟩
  | 4, e2 => match xs, e2 with
    | [v], _ => exact ⟨fun _ => ⟨_, rfl, .changed v⟩, fun h => absurd h (by decide)⟩
  | 5, e2 => match xs, e2 with
    | [v, m], _ => exact ⟨fun _ => ⟨_, rfl, .clashes v m⟩, fun h => absurd h (by decide)⟩
  | 6, e2 => match xs, e2 with
    | [v, m], _ => exact ⟨fun h => absurd h (by decide), fun _ => ⟨_, rfl, .merged v m ls⟩⟩
  | 7, e2 => match xs, e2 with
    | [v, m], _ => exact ⟨fun h => absurd h (by decide), fun _ => ⟨_, rfl, .commit v m ls⟩⟩
  | 8, e2 => match xs, e2 with
    | [v, m], _ => exact ⟨fun h => absurd h (by decide), fun _ => ⟨_, rfl, .refresh v m ls⟩⟩
  | 9, e2 => match xs, e2 with
    | [v], _ => exact ⟨fun _ => ⟨_, rfl, .tables v⟩, fun h => absurd h (by decide)⟩
  | 10, e2 => match xs, e2 with
    | [m], _ => exact ⟨fun _ => ⟨_, rfl, .orders m⟩, fun h => absurd h (by decide)⟩
  | 11, e2 => match xs, e2 with
    | [], _ => exact ⟨fun _ => ⟨_, rfl, .size⟩, fun h => absurd h (by decide)⟩
  | j + 12, e2 => exact absurd e2 (by simp [snL])
theorem bound_of {j : Nat} (h : hlL[j]? = some true) : (PyVauowd.bound ((j : Nat) : Int)).2 = [(-1000000000000000000, 1000000000000000000, 0, 5000)] := by
  match j, h with
  | 0, _ => rfl
  | 1, h => exact absurd h (by decide)
  | 2, _ => rfl
  | 3, _ => rfl
  | 4, h => exact absurd h (by decide)
  | 5, h => exact absurd h (by decide)
  | 6, _ => rfl
  | 7, _ => rfl
  | 8, _ => rfl
  | 9, h => exact absurd h (by decide)
  | 10, h => exact absurd h (by decide)
  | 11, h => exact absurd h (by decide)
  | j + 12, h => exact absurd h (by simp [hlL])
theorem calls_is : ∀ {cs : List (List (List Int))} {f : Nat} {l : List Int}, PyFlat.calls PyVauowd.shape f l = some cs → (∀ c ∈ cs, PyInside.call PyVauowd.bound c = true) →
    ∀ c ∈ cs, (∃ k, VauowdNeutral.callOf (PyVauowd.whole c) = some k ∧ Is (tr c).1 (tr c).2.1 (tr c).2.2 k) ∧ (tr c).2.2.length ≤ 5000
  | [], _, _, _, _, c, hc => by cases hc
  | d :: cs, f, [], h, _, c, hc => by
    cases f with
    | zero => cases h
    | succ f => cases h
  | d :: cs, f, p :: r, h, hb, c, hc => by
    obtain ⟨j, n, f', cs', rfl, e2, e3, e4, e5⟩ := calls_first h
    have hx : (r.take n).length = n := by rw [List.length_take]; omega
    rcases e5 with ⟨e6, e7, e8⟩ | ⟨e6, z, e9, e10, e7, e8⟩
    · injection e7 with e7 e71
      subst e7 e71
      rcases List.mem_cons.mp hc with rfl | hc
      · exact ⟨(is_of (ls := []) e2 hx).1 e6, Nat.zero_le _⟩
      · exact calls_is e8 (fun c hc => hb c (List.mem_cons_of_mem _ hc)) c hc
    · injection e7 with e7 e71
      subst e7 e71
      rcases List.mem_cons.mp hc with rfl | hc
      · refine ⟨(is_of e2 hx).2 e6, ?_⟩
        have hb := hb _ List.mem_cons_self
        have hb : (PyInside.each (PyVauowd.bound ((j : Nat) : Int)).1 (r.take n) && PyInside.lists (PyVauowd.bound ((j : Nat) : Int)).2 [(r.drop (n + 1)).take z]) = true := hb
        rw [bound_of e6, Bool.and_eq_true] at hb
        have hb : (decide (0 ≤ ((r.drop (n + 1)).take z).length) && decide (((r.drop (n + 1)).take z).length ≤ 5000) && ((r.drop (n + 1)).take z).all (PyInside.within (-1000000000000000000) 1000000000000000000) && true) = true := hb.2
        rw [Bool.and_eq_true, Bool.and_eq_true, Bool.and_eq_true] at hb
        exact of_decide_eq_true hb.1.1.2
      · exact calls_is e8 (fun c hc => hb c (List.mem_cons_of_mem _ hc)) c hc
theorem asked_calls {l : List Int} (h : PyVauowd.answers_asked l = true) : ∃ cs, PyFlat.calls PyVauowd.shape l.length l = some cs ∧ (∀ c ∈ cs, PyInside.call PyVauowd.bound c = true) ∧ (PyVauowd.answers l).length ≤ 10000000 ∧
    PyFlat.told (PyFlat.played VauowdNeutral.step Vauowd.start (cs.map PyVauowd.whole)) = PyVauowd.answers l := by
  cases e : PyFlat.calls PyVauowd.shape l.length l with
  | none =>
    unfold PyVauowd.answers_asked at h
    rw [e] at h; cases h
  | some cs =>
    unfold PyVauowd.answers_asked at h
    rw [e] at h
    have h : (!cs.isEmpty && PyFlat.atMost 100 cs && PyInside.calls PyVauowd.bound cs && VauowdNeutral.asked (cs.map PyVauowd.whole) && PyFlat.short 10000000 (PyVauowd.answers l)) = true := h
    rw [Bool.and_eq_true, Bool.and_eq_true, Bool.and_eq_true] at h
    refine ⟨cs, rfl, fun c hc => List.all_eq_true.mp h.1.1.2 c hc, of_decide_eq_true h.2, ?_⟩
    unfold PyVauowd.answers PyVauowd.calls
    rw [e]
    rfl
/-! ### answers -/
theorem HeldR.over {M : List Addr} {H : Hp} {a ba oa : Addr} {S : State} (h : HeldR ad M H a ba oa S) {q : Addr} {xs : List V} (m : q ∈ M) (na : q ≠ a) (nb : q ≠ ba) (no : q ≠ oa) : HeldR ad M (upd H q (.lst xs)) a ba oa S := by
  obtain ⟨dx, sl, sa, b0, b1, o0, o1, h1, h2, h3, h4, h5, h6, h7, h8, h9⟩ := h.ex
  have k : Same (msk M H) (msk M (upd H q (.lst xs))) := msk_kp (M := M) (Kp.upd m)
  refine ⟨⟨dx, sl, sa, b0, b1, o0, o1, by rw [upd_ne na.symm]; exact h1, by rw [upd_ne nb.symm]; exact h2, by rw [upd_ne no.symm]; exact h3, h4.same k, h5.same k, h6.same k, h7.same k, h8.same k, h9.same k⟩, h.ma, h.mb, h.mo, h.ne, fun x hx => ?_⟩
  by_cases e : x = q
  · exact ⟨_, by rw [e]; exact upd_same, .inl ⟨_, rfl⟩⟩
  · obtain ⟨o, e1, e2⟩ := h.ok x hx
    exact ⟨o, by rw [upd_ne e]; exact e1, e2⟩
abbrev s_answers : Stmt := top 126
theorem sc_answers : FnScope ["calls", "held", "told", "call", "singles", "listed", "answer"] ["calls"] (defScope s_answers) := ⟨rfl, rfl, rfl, by decide +kernel, rfl, by decide +kernel, by decide +kernel⟩
def sp_answers (K : PySem.W.Frag) : Sp := fun vs H Q _ => ∃ (la : Addr) (l : List Int), vs = [.ref la] ∧ SqL K H la (l.map V.int) ∧ l.length ≤ 17000 ∧ PyVauowd.answers_asked l = true ∧
  ∀ H' p, H' p = some (.lst ((PyVauowd.answers l).map V.int)) → Q (.ref p) H'
theorem ok_answers {f : Addr} {fd : FuncData} (T : Tp K mg ad) (i_Held : Ic P w K mg base 2 ad.Held ["self"] (sp_Held_init ad))
    (c_read_calls : Fc P w K mg base CX0 1 "read_calls" ["calls"] (sp_read_calls K)) (c_answer_call : Fc P w K mg base CX0 11 "answer_call" ["held", "call", "singles", "listed"] (sp_answer_call ad))
    (F : Fun K "answers" "answers" s_answers f fd) : FnOk P w K mg base CX0 12 f fd ["calls"] (sp_answers K) := by
  refine F.ok sc_answers (fun vs H Q E h => ?_) (fun cdv A outer s H vs Q E hr h => ⟨_, (pss_cons (ps_set (i := 1) sc_answers.nd rfl (.inl rfl) (pe_mkc0 i_Held (hr.mono (by decide)) (by rfl) T.g_Held)) (pss_cons (ps_set (i := 2) sc_answers.nd rfl (.inl rfl) (pe_lst pa_nil)) (pss_cons (ps_forO PassesOwn.never rfl (pi_list (pe_fc c_read_calls (hr.mono (by decide)) (by rfl) (pa_cons (pv 0) pa_nil))) (pg_tup (by rfl) (pgs_cons (pg_name (i := 3) sc_answers.nd rfl (.inl rfl)) (pgs_cons (pg_name (i := 4) sc_answers.nd rfl (.inl rfl)) (pgs_cons (pg_name (i := 5) sc_answers.nd rfl (.inl rfl)) pgs_nil)))) (pss_cons (ps_set (i := 6) sc_answers.nd rfl (.inl rfl) (pe_fc c_answer_call (hr.mono (by decide)) (by rfl) (pa_cons (pv 1) (pa_cons (pv 3) (pa_cons (pv 4) (pa_cons (pv 5) pa_nil)))))) (pss_cons (ps_expr (pe_bm PySem.F.plainAttrs_list PySem.F.slot_list_append PySem.F.type_list_append mt_appL (pv 2) (pa_cons (pe_callB call_len_seq (by rfl) T.b_len (by decide +kernel) (pa_cons (pv 6) pa_nil)) pa_nil))) (pss_one (ps_expr (pe_bm PySem.F.plainAttrs_list PySem.F.slot_list_extend PySem.F.type_list_extend mt_extendL (pv 2) (pa_cons (pv 6) pa_nil))))))) (pss_one (ps_ret (pv 2)))))), ?_⟩)
  · obtain ⟨la, l, rfl, _⟩ := h
    rfl
  obtain ⟨la, l, rfl, hla, hlen, hask, k⟩ := h
  obtain ⟨cs, hc, hb, hlong, he⟩ := asked_calls hask
  walk_at "rd"
  intro x dx nx ndx nex
  walk_at "rd"
  intro H1 sl t ba oa k1 h1x nsl nt nba noa nbo hsl ht hba hoa
  have s1 : Same H H1 := fun b u e => by
    have n1 : b ≠ x := ne_of_none e nx
    refine k1 b u (by simpa using n1) ?_
    rw [upd_ne n1, upd_ne (ne_of_none e ndx)]; exact e
  have nex' : ∀ {b : Addr}, upd (upd H dx (.own x)) x (.ins ad.Held dx []) b = none → b ≠ x := fun {b} e z => by rw [z, upd_same] at e; cases e
  have nslx := nex' nsl
  have ntx := nex' nt
  have nbx := nex' nba
  have nox := nex' noa
  clear k1 nex'
  walk_at "rd"
  intro tl ntl
  obtain ⟨s2, htl2⟩ := al2 (o := .lst (([] : List Int).map V.int)) ntl
  have he0 : (HO.lst [] : HO) = .lst (([] : List Int).map V.int) := rfl
  rw [he0]
  generalize upd H1 tl (.lst (([] : List Int).map V.int)) = H2 at s2 htl2 ⊢
  have nn : ∀ {b : Addr} {o : HO}, H1 b = some o → b ≠ tl := fun {b o} e z => by rw [z, ntl] at e; cases e
  have ntlx := nn h1x
  have ntlb := nn hba
  have ntlo := nn hoa
  have ntls := nn hsl
  have ntlt := nn ht
  have slb : sl ≠ ba := fun z => by rw [z, hba] at hsl; cases hsl
  have slo : sl ≠ oa := fun z => by rw [z, hoa] at hsl; cases hsl
  have tb0 : t ≠ ba := fun z => by rw [z, hba] at ht; cases ht
  have to0 : t ≠ oa := fun z => by rw [z, hoa] at ht; cases ht
  have h2x := s2 _ _ h1x
  have hba2 := s2 _ _ hba
  have hoa2 := s2 _ _ hoa
  have hsl2 := s2 _ _ hsl
  have ht2 := s2 _ _ ht
  have nsM : sl ∉ [x, ba, oa, tl] := by simp [nslx, slb, slo, ntls]
  have ntM : t ∉ [x, ba, oa, tl] := by simp [ntx, tb0, to0, ntlt]
  have dbe : DbAt (msk [x, ba, oa, tl] H2) t [] := ⟨[], msk_in ntM ht2, .nil⟩
  have hd2 : HeldR ad [x, ba, oa, tl] H2 x ba oa Vauowd.start := by
    refine ⟨⟨dx, sl, t, t, t, t, t, h2x, hba2, hoa2, ⟨[], msk_in nsM hsl2, .nil⟩, dbe, dbe, dbe, dbe, dbe⟩, by simp, by simp, by simp, nbo, fun y hy => ?_⟩
    simp only [List.mem_cons, List.not_mem_nil, or_false] at hy
    rcases hy with rfl | rfl | rfl | rfl
    · exact ⟨_, h2x, .inr ⟨_, _, rfl, rfl⟩⟩
    · exact ⟨_, hba2, .inl ⟨_, rfl⟩⟩
    · exact ⟨_, hoa2, .inl ⟨_, rfl⟩⟩
    · exact ⟨_, htl2, .inl ⟨_, rfl⟩⟩
  have hla2 := (s1.trans s2).seq hla
  clear nsl nt nba noa hsl ht nn dbe
  refine ⟨?_⟩
  walk_at "rd"
  intro q ws H3 nq s3 hq pr
  have hx3 := hd2.same s3
  have h3x := s3 _ _ h2x
  have hba3 := s3 _ _ hba2
  have hoa3 := s3 _ _ hoa2
  have htl3 := s3 _ _ htl2
  have qM : q ∉ [x, ba, oa, tl] := by
    simp only [List.mem_cons, List.not_mem_nil, or_false]
    rintro (rfl | rfl | rfl | rfl)
    · rw [h2x] at nq; cases nq
    · rw [hba2] at nq; cases nq
    · rw [hoa2] at nq; cases nq
    · rw [htl2] at nq; cases nq
  have lM : ∀ {b : Addr}, H2 b = none → b ∉ [x, ba, oa, tl] := fun {b} nb => by
    simp only [List.mem_cons, List.not_mem_nil, or_false]
    rintro (rfl | rfl | rfl | rfl)
    · rw [h2x] at nb; cases nb
    · rw [hba2] at nb; cases nb
    · rw [hoa2] at nb; cases nb
    · rw [htl2] at nb; cases nb
  have tM : ∀ {b : Addr} {xs : List V}, H3 b = some (.tup xs) → b ∉ [x, ba, oa, tl] := fun {b xs} e => by
    simp only [List.mem_cons, List.not_mem_nil, or_false]
    rintro (rfl | rfl | rfl | rfl)
    · rw [h3x] at e; cases e
    · rw [hba3] at e; cases e
    · rw [hoa3] at e; cases e
    · rw [htl3] at e; cases e
  refine ⟨q, rfl, ⟨_, SqL.of hq⟩, for_it (walk_list (xs := ws)) (fun i σ H' => Nx (∃ (x3 x4 x5 x6 : Option V) (M' : List Addr) (yb yo : Addr) (S : State) (acc : List Int), σ = [some (.ref la), some (.ref x), some (.ref tl), x3, x4, x5, x6] ∧ Kp [x, ba, oa, tl] H3 H' ∧ HeldR ad M' H' x yb yo S ∧ GSt S ∧ tl ∈ M' ∧ tl ≠ yb ∧ tl ≠ yo ∧ H' tl = some (.lst (acc.map V.int)) ∧ (∀ y ∈ M', y ∈ [x, ba, oa, tl] ∨ H3 y = none) ∧
      acc ++ PyFlat.told (PyFlat.played VauowdNeutral.step S ((cs.drop i).map PyVauowd.whole)) = PyVauowd.answers l))
    ⟨_, _, _, _, [x, ba, oa, tl], ba, oa, Vauowd.start, [], rfl, Kp.refl _ _, hx3, GSt.start, by simp, ntlb.symm, ntlo.symm, htl3, fun y hy => .inl hy, he⟩ (fun i σ H' _ h => ?_) ?_ ?_⟩
  · obtain ⟨_, _, _, _, _, _, _, _, _, _, k', _⟩ := h.h
    exact SqL.of (k' _ _ qM hq)
  · rintro i v σ H4 H4' hi ⟨x3, x4, x5, x6, M', yb, yo, S, acc, rfl, kp, hd, g, tm, tb, to, ht4, hM, ea⟩ ⟨rfl, hv⟩
    obtain ⟨c, hcs, hca⟩ := paired_get' pr hv
    obtain ⟨t', sa, la', rfl, h1, h2, h3, n1, n2⟩ := hca.ex
    obtain ⟨⟨kk, ek, isk⟩, hl5⟩ := calls_is hc hb c (List.mem_of_getElem? hcs)
    have h14 := kp _ _ (tM h1) h1
    have h24 := kp _ _ (lM n1) h2
    have h34 := kp _ _ (lM n2) h3
    have ed : cs.drop i = c :: cs.drop (i + 1) := by
      obtain ⟨hjl, he3⟩ := List.getElem?_eq_some_iff.mp hcs
      rw [← he3]; exact List.drop_eq_getElem_cons hjl
    rw [ed] at ea
    have est : VauowdNeutral.step S (PyVauowd.whole c) = ((Vauowd.step S kk).1, (Vauowd.step S kk).2) := by
      unfold VauowdNeutral.step
      rw [ek]; rfl
    have ea : acc ++ ((((VauowdNeutral.step S (PyVauowd.whole c)).2.length : Int) :: (VauowdNeutral.step S (PyVauowd.whole c)).2) ++ PyFlat.told (PyFlat.played VauowdNeutral.step (VauowdNeutral.step S (PyVauowd.whole c)).1 ((cs.drop (i + 1)).map PyVauowd.whole))) = PyVauowd.answers l := ea
    rw [est] at ea
    have hlens : acc.length + (Vauowd.step S kk).2.length + 1 ≤ 10000000 := by
      have := congrArg List.length ea
      rw [List.length_append, List.length_append, List.length_cons] at this
      have e0 : ((Vauowd.step S kk).1, (Vauowd.step S kk).2).2.length = (Vauowd.step S kk).2.length := rfl
      omega
    generalize eA : (Vauowd.step S kk).2 = ans at ea hlens
    walk_at "rd"
    intro r H5 M5 yb5 yo5 hN nr rM hr
    have hr : H5 r = some (.lst (ans.map V.int)) := by rw [← eA]; exact hr
    have gT := g.step kk
    have tlx : tl ≠ x := ntlx.symm
    have m5 : tl ∈ M5 := hN.up _ tm
    have tb5 : tl ≠ yb5 := fun z => by
      rcases hN.b with e | e
      · exact tb (z.trans e)
      · rw [← z, ht4] at e; cases e
    have to5 : tl ≠ yo5 := fun z => by
      rcases hN.o with e | e
      · exact to (z.trans e)
      · rw [← z, ht4] at e; cases e
    have ht5 : H5 tl = some (.lst (acc.map V.int)) := hN.kp _ _ (by simp [tlx, tb, to]) ht4
    have hal : (acc.map V.int).length = acc.length := List.length_map ..
    have hrl : (ans.map V.int).length = ans.length := List.length_map ..
    have hlw : (acc.map V.int).length < sizeLine := Nat.lt_of_le_of_lt (by omega : (acc.map V.int).length ≤ 10000000) (by decide)
    walk_at "rd"
    intro H6 u6
    have hrt : r ≠ tl := fun z => by rw [z, ht4] at nr; cases nr
    have ht6 : H6 tl = some (.lst (acc.map V.int ++ [V.int (((ans.map V.int).length : Nat) : Int)])) := by rw [u6]; exact upd_same
    have hr6 : H6 r = some (.lst (ans.map V.int)) := by rw [u6, upd_ne hrt]; exact hr
    have hlw2 : (acc.map V.int ++ [V.int (((ans.map V.int).length : Nat) : Int)]).length + (ans.map V.int).length ≤ sizeLine := Nat.le_trans (by rw [List.length_append, List.length_singleton, hal, hrl]; omega : _ ≤ 10000000) (by decide)
    walk_at "rd"
    intro H7 u7
    have ht7 : H7 tl = some (.lst ((acc ++ ((ans.length : Int) :: ans)).map V.int)) := by
      rw [u7, upd_same, hrl, List.map_append, List.append_assoc]; rfl
    have hx7 : HeldR ad M5 H7 x yb5 yo5 (Vauowd.step S kk).1 := by
      rw [u7, u6]; exact (hN.hd.over m5 tlx tb5 to5).over m5 tlx tb5 to5
    have dM : ∀ {y : Addr}, y ∈ M' → ∀ {u : HO}, H3 y = some u → y ∈ [x, ba, oa, tl] := fun {y} hy {u} e => by
      rcases hM y hy with z | z
      · exact z
      · rw [z] at e; cases e
    refine ⟨⟨_, _, _, _, M5, yb5, yo5, (Vauowd.step S kk).1, acc ++ ((ans.length : Int) :: ans), rfl, fun b u nb e => ?_, hx7, gT, m5, tb5, to5, ht7, fun y hy => ?_, ?_⟩⟩
    · have nbl : b ≠ tl := fun z => nb (by rw [z]; simp)
      rw [u7, upd_ne nbl, u6, upd_ne nbl]
      refine hN.kp b u (fun m => ?_) (kp b u nb e)
      simp only [List.mem_cons, List.not_mem_nil, or_false] at m
      rcases m with rfl | rfl | rfl
      · exact nb (by simp)
      · exact nb (dM hd.mb e)
      · exact nb (dM hd.mo e)
    · rcases hN.nw y hy with hy | hy
      · exact hM y hy
      · by_cases e : y ∈ [x, ba, oa, tl]
        · exact .inl e
        · cases e3 : H3 y with
          | none => exact .inr rfl
          | some u => rw [kp y u e e3] at hy; cases hy
    · rw [List.append_assoc]; exact ea
  · rintro σ H4 ⟨x3, x4, x5, x6, M', yb, yo, S, acc, rfl, kp, hd, g, tm, tb, to, ht4, hM, ea⟩
    rw [Paired.length pr, List.drop_length] at ea
    have ea : acc ++ [] = PyVauowd.answers l := ea
    rw [List.append_nil] at ea
    rw [ea] at ht4
    walk_at "rd"
    exact k H4 tl ht4
end Tw
end
namespace Tw
open PySem PySem.Spec PyProof.Rows L2
variable {P : Program} {w : World} {K : PySem.W.Frag} {mg : Str → Option Value} {base : Heap} {h : Heap}
/-! ### what the top has written, as premises -/
def CF (K : PySem.W.Frag) (x : Str) (v : V) : Prop := ∃ u, PySem.W.nsIn K mainGlobals x = some (some u) ∧ RelV v u
theorem cf_ok {x : Str} {v : V} (KX : K.In h) (G : h.Ns mainGlobals mg) (c : CF K x v) : Cs mg x v := by
  obtain ⟨u, a, r⟩ := c
  exact ⟨u, PySem.W.mg_of KX G a, r⟩
def TU (K : PySem.W.Frag) (a : Addr) (xs : List V) : Prop := ∃ (od : Option Addr) (its : Array Value) (n : Nat) (sl : Array (Option Value)), K.lookup a = some ⟨.type "tuple", od, .seq its n, sl⟩ ∧ its.size ≤ sizeLine ∧ Vals xs its.toList
theorem tu_ok {a : Addr} {xs : List V} (c : TU K a xs) : ∀ H, SqT K H a xs := by
  obtain ⟨od, its, n, sl, l, z, v⟩ := c
  exact fun H => .inr ⟨_, its, n, l, rfl, rfl, z, v⟩
def GF (K : PySem.W.Frag) (x : Str) (st : Stmt) : Prop := ∃ (f : Addr) (oc : Value) (od : Option Addr) (osl : Array (Option Value)) (kV doc pm : Value) (an : Option Addr) (cdv ct : Value), PySem.W.nsIn K mainGlobals x = some (some (.ref f)) ∧ K.lookup f = some ⟨oc, od, .func (PySem.W.fnOf x x (defArgs st) (defBody st) (defScope st) .none kV doc pm an cdv ct), osl⟩ ∧ PySem.W.codeIn K cdv x = true ∧ PySem.W.keepIn K (.ref f) = true
def MF (K : PySem.W.Frag) (C : Addr) (m q : Str) (st : Stmt) : Prop := ∃ (f : Addr) (oc : Value) (od : Option Addr) (osl : Array (Option Value)) (kV doc pm : Value) (an : Option Addr) (cdv ct : Value), PySem.W.findIn K (.ref C) m = some (some (.ref f)) ∧ K.lookup f = some ⟨oc, od, .func (PySem.W.fnOf m q (defArgs st) (defBody st) (defScope st) .none kV doc pm an cdv ct), osl⟩ ∧ PySem.W.codeIn K cdv q = true ∧ PySem.W.keepIn K (.ref f) = true ∧ PySem.W.isFn K (.ref f) = true
def XF (K : PySem.W.Frag) (C : Addr) (q : Str) (st : Stmt) : Prop := ∃ (f : Addr) (oc : Value) (od : Option Addr) (osl : Array (Option Value)) (kV doc pm : Value) (an : Option Addr) (cdv ct : Value), PySem.W.findIn K (.ref C) "__init__" = some (some (.ref f)) ∧ K.lookup f = some ⟨oc, od, .func (PySem.W.fnOf "__init__" q (defArgs st) (defBody st) (defScope st) .none kV doc pm an cdv ct), osl⟩ ∧ PySem.W.codeIn K cdv q = true ∧ PySem.W.keepIn K (.ref f) = true ∧ PySem.W.typeIn K (.ref f) = some (.type "function")
def IF (K : PySem.W.Frag) (C : Addr) (q : Str) (st : Stmt) : Prop := ∃ (f : Addr) (oc : Value) (od : Option Addr) (osl : Array (Option Value)) (kV doc pm : Value) (an : Option Addr) (cdv ct : Value), PySem.W.findIn K (.ref C) "__init__" = some (some (.ref f)) ∧ K.lookup f = some ⟨oc, od, .func (PySem.W.fnOf "__init__" q (defArgs st) (defBody st) (defScope st) .none kV doc pm an cdv ct), osl⟩ ∧ PySem.W.codeIn K cdv q = true ∧ PySem.W.keepIn K (.ref f) = true ∧ PySem.W.isFn K (.ref f) = true ∧ PySem.W.makesIn K C = true ∧ PySem.W.keepIn K (.ref C) = true
theorem cf_in {x : Str} {v : V} {u : Value} (a : PySem.W.nsIn K mainGlobals x = some (some u)) (r : RelV v u) : CF K x v := ⟨u, a, r⟩
theorem tu_in {a : Addr} {xs : List V} {od : Option Addr} {its : Array Value} {n : Nat} {sl : Array (Option Value)} (l : K.lookup a = some ⟨.type "tuple", od, .seq its n, sl⟩) (z : its.size ≤ sizeLine) (v : Vals xs its.toList) : TU K a xs := ⟨od, its, n, sl, l, z, v⟩
theorem ec_in {C : Addr} {nm q : Str} {N : Addr} {bs : List Value} {sn : List Str} {sub : List Value} {ab : Bool} {col : Option Bool} {dd : Option Addr} {k0 k1 k2 k3 k5 : Option Value} (l : K.lookup C = some (excClassObj nm q C N bs eTl true sn sub ab col dd k0 k1 k2 k3 k5 "Exception.__new__"))
    (sa : PySem.W.findIn K (.ref C) "__setattr__" = some (some (.builtin "object.__setattr__"))) (e : PySem.W.subIn K (.ref C) (.type "BaseException") = some true) (t : PySem.W.typeIn K (.ref C) = some (.type "type")) (k : PySem.W.keepIn K (.ref C) = true) : EcC K C := ⟨⟨nm, q, N, bs, sn, sub, ab, col, dd, k0, k1, k2, k3, k5, l⟩, sa, e, t, k⟩
theorem gf_in {x : Str} {st : Stmt} {f : Addr} {oc : Value} {od : Option Addr} {osl : Array (Option Value)} {kV doc pm : Value} {an : Option Addr} {cdv ct : Value} (a : PySem.W.nsIn K mainGlobals x = some (some (.ref f))) (l : K.lookup f = some ⟨oc, od, .func (PySem.W.fnOf x x (defArgs st) (defBody st) (defScope st) .none kV doc pm an cdv ct), osl⟩) (c : PySem.W.codeIn K cdv x = true) (k : PySem.W.keepIn K (.ref f) = true) : GF K x st := ⟨f, oc, od, osl, kV, doc, pm, an, cdv, ct, a, l, c, k⟩
theorem mf_in {C : Addr} {m q : Str} {st : Stmt} {f : Addr} {oc : Value} {od : Option Addr} {osl : Array (Option Value)} {kV doc pm : Value} {an : Option Addr} {cdv ct : Value} (a : PySem.W.findIn K (.ref C) m = some (some (.ref f))) (l : K.lookup f = some ⟨oc, od, .func (PySem.W.fnOf m q (defArgs st) (defBody st) (defScope st) .none kV doc pm an cdv ct), osl⟩) (c : PySem.W.codeIn K cdv q = true) (k : PySem.W.keepIn K (.ref f) = true) (i : PySem.W.isFn K (.ref f) = true) : MF K C m q st := ⟨f, oc, od, osl, kV, doc, pm, an, cdv, ct, a, l, c, k, i⟩
theorem xf_in {C : Addr} {q : Str} {st : Stmt} {f : Addr} {oc : Value} {od : Option Addr} {osl : Array (Option Value)} {kV doc pm : Value} {an : Option Addr} {cdv ct : Value} (a : PySem.W.findIn K (.ref C) "__init__" = some (some (.ref f))) (l : K.lookup f = some ⟨oc, od, .func (PySem.W.fnOf "__init__" q (defArgs st) (defBody st) (defScope st) .none kV doc pm an cdv ct), osl⟩) (c : PySem.W.codeIn K cdv q = true) (k : PySem.W.keepIn K (.ref f) = true) (i : PySem.W.typeIn K (.ref f) = some (.type "function")) : XF K C q st := ⟨f, oc, od, osl, kV, doc, pm, an, cdv, ct, a, l, c, k, i⟩
theorem if_in {C : Addr} {q : Str} {st : Stmt} {f : Addr} {oc : Value} {od : Option Addr} {osl : Array (Option Value)} {kV doc pm : Value} {an : Option Addr} {cdv ct : Value} (a : PySem.W.findIn K (.ref C) "__init__" = some (some (.ref f))) (l : K.lookup f = some ⟨oc, od, .func (PySem.W.fnOf "__init__" q (defArgs st) (defBody st) (defScope st) .none kV doc pm an cdv ct), osl⟩) (c : PySem.W.codeIn K cdv q = true) (k : PySem.W.keepIn K (.ref f) = true) (i : PySem.W.isFn K (.ref f) = true) (m : PySem.W.makesIn K C = true) (n : PySem.W.keepIn K (.ref C) = true) : IF K C q st := ⟨f, oc, od, osl, kV, doc, pm, an, cdv, ct, a, l, c, k, i, m, n⟩
theorem gf_ok {x : Str} {st : Stmt} (KX : K.In h) (G : h.Ns mainGlobals mg) (c : GF K x st) : ∃ f fd, mg x = some (.ref f) ∧ PySem.W.keepIn K (.ref f) = true ∧ Fun K x x st f fd := by
  obtain ⟨f, oc, od, osl, kV, doc, pm, an, cdv, ct, a, l, c, k⟩ := c
  exact ⟨f, _, PySem.W.mg_of KX G a, k, fun_mk l c k⟩
theorem mf_ok {C : Addr} {m q : Str} {st : Stmt} (c : MF K C m q st) : ∃ f fd, Meth K C m f ∧ Fun K m q st f fd := by
  obtain ⟨f, oc, od, osl, kV, doc, pm, an, cdv, ct, a, l, c, k, i⟩ := c
  exact ⟨f, _, ⟨a, i, k⟩, fun_mk l c k⟩
theorem xf_ok {C : Addr} {q : Str} {st : Stmt} (c : XF K C q st) : ∃ f fd, PySem.W.findIn K (.ref C) "__init__" = some (some (.ref f)) ∧ PySem.W.typeIn K (.ref f) = some (.type "function") ∧ Fun K "__init__" q st f fd := by
  obtain ⟨f, oc, od, osl, kV, doc, pm, an, cdv, ct, a, l, c, k, i⟩ := c
  exact ⟨f, _, a, i, fun_mk l c k⟩
theorem if_ok {C : Addr} {q : Str} {st : Stmt} (c : IF K C q st) : ∃ f fd, Mk K C f ∧ Fun K "__init__" q st f fd := by
  obtain ⟨f, oc, od, osl, kV, doc, pm, an, cdv, ct, a, l, c, k, i, mk, kc⟩ := c
  exact ⟨f, _, ⟨mk, a, i, kc⟩, fun_mk l c k⟩
/-- an error of the class at S is what «except S» names -/
theorem exm_self' {S : Addr} (h1 : PySem.W.subIn K (.ref S) (.type "BaseException") = some true) (h2 : PySem.W.isClsIn K S = true) (h3 : PySem.W.typeIn K (.ref S) = some (.type "type")) (h4 : PySem.W.subIn K (.ref S) (.ref S) = some true) :
    PySem.W.exmOne K (.ref S) (.ref S) = some true := by
  have e1 : (PySem.W.subIn K (.ref S) (.type "BaseException") == some true) = true := by rw [h1] <;> rfl
  have e2 : ((PySem.W.clsIn K S).isSome && PySem.W.typeIn K (.ref S) == some (.type "type")) = true := by
    have h2' : (PySem.W.clsIn K S).isSome = true := h2
    rw [h2', h3] <;> rfl
  show (if _ = true then (if _ = true then PySem.W.subIn K (.ref S) (.ref S) else none) else none) = some true
  rw [if_pos e1, if_pos e2]
  exact h4
theorem tp_mk {aTable aColumn aFirstFault aSchemaReader aHeld aSINGLE_NUMBERS aHAS_LIST aNO_NAMES aSESSIONS aMODES aCHOICES : Addr} (KX : K.In h) (G : h.Ns mainGlobals mg)
    (a_Table : PySem.W.nsIn K mainGlobals "Table" = some (some (.ref aTable)))
    (a_Column : PySem.W.nsIn K mainGlobals "Column" = some (some (.ref aColumn)))
    (a_FirstFault : PySem.W.nsIn K mainGlobals "FirstFault" = some (some (.ref aFirstFault)))
    (a_SchemaReader : PySem.W.nsIn K mainGlobals "SchemaReader" = some (some (.ref aSchemaReader)))
    (a_Held : PySem.W.nsIn K mainGlobals "Held" = some (some (.ref aHeld)))
    (a_SINGLE_NUMBERS : PySem.W.nsIn K mainGlobals "SINGLE_NUMBERS" = some (some (.ref aSINGLE_NUMBERS)))
    (a_HAS_LIST : PySem.W.nsIn K mainGlobals "HAS_LIST" = some (some (.ref aHAS_LIST)))
    (a_NO_NAMES : PySem.W.nsIn K mainGlobals "NO_NAMES" = some (some (.ref aNO_NAMES)))
    (a_SESSIONS : PySem.W.nsIn K mainGlobals "SESSIONS" = some (some (.ref aSESSIONS)))
    (a_MODES : PySem.W.nsIn K mainGlobals "MODES" = some (some (.ref aMODES)))
    (a_CHOICES : PySem.W.nsIn K mainGlobals "CHOICES" = some (some (.ref aCHOICES)))
    (k_LOAD : CF K "LOAD" (.int 0))
    (k_WRITTEN : CF K "WRITTEN" (.int 1))
    (k_FILL : CF K "FILL" (.int 2))
    (k_SET : CF K "SET" (.int 3))
    (k_CHANGED : CF K "CHANGED" (.int 4))
    (k_CLASHES : CF K "CLASHES" (.int 5))
    (k_MERGED : CF K "MERGED" (.int 6))
    (k_COMMIT : CF K "COMMIT" (.int 7))
    (k_REFRESH : CF K "REFRESH" (.int 8))
    (k_TABLES : CF K "TABLES" (.int 9))
    (k_ORDERS : CF K "ORDERS" (.int 10))
    (t_SINGLE_NUMBERS : TU K aSINGLE_NUMBERS [V.int 0, V.int 0, V.int 0, V.int 1, V.int 1, V.int 2, V.int 2, V.int 2, V.int 2, V.int 1, V.int 1, V.int 0])
    (t_HAS_LIST : TU K aHAS_LIST [V.bl true, V.bl false, V.bl true, V.bl true, V.bl false, V.bl false, V.bl true, V.bl true, V.bl true, V.bl false, V.bl false, V.bl false])
    (k_ADDED : CF K "ADDED" (.int 0))
    (k_ALTERED : CF K "ALTERED" (.int 1))
    (k_REMOVED : CF K "REMOVED" (.int 2))
    (k_BOTH_ALTERED : CF K "BOTH_ALTERED" (.int 0))
    (k_STORE_REMOVED : CF K "STORE_REMOVED" (.int 1))
    (k_SESSION_REMOVED : CF K "SESSION_REMOVED" (.int 2))
    (k_BOTH_ADDED : CF K "BOTH_ADDED" (.int 3))
    (k_WHOLE_ROW : CF K "WHOLE_ROW" (.int 4))
    (k_OF_THE_SESSION : CF K "OF_THE_SESSION" (.int 1))
    (k_FARTHEST : CF K "FARTHEST" (.int 1000000))
    (k_LETTERS : CF K "LETTERS" (.str (T x_LETTERS)))
    (k_DIGITS : CF K "DIGITS" (.str (T x_DIGITS)))
    (k_WORD_SIGNS : CF K "WORD_SIGNS" (.str (T x_WORD_SIGNS)))
    (k_SIGNS : CF K "SIGNS" (.str (T x_SIGNS)))
    (k_BLANKS : CF K "BLANKS" (.str (T x_BLANKS)))
    (k_KNOWN_SIGNS : CF K "KNOWN_SIGNS" (.str (T x_KNOWN_SIGNS)))
    (k_UNKNOWN_SIGN : CF K "UNKNOWN_SIGN" (.str (T x_UNKNOWN_SIGN)))
    (k_LONGEST_WORD : CF K "LONGEST_WORD" (.int 12))
    (k_MOST_DIGITS : CF K "MOST_DIGITS" (.int 7))
    (k_GREATEST_NUMBER : CF K "GREATEST_NUMBER" (.int 1000000))
    (k_WORD : CF K "WORD" (.str (T x_WORD)))
    (k_NUMBER : CF K "NUMBER" (.str (T x_NUMBER)))
    (k_SIGN : CF K "SIGN" (.str (T x_SIGN)))
    (k_END : CF K "END" (.str (T x_END)))
    (k_STRAY : CF K "STRAY" (.str (T x_STRAY)))
    (k_MALFORMED : CF K "MALFORMED" (.str (T x_MALFORMED)))
    (k_MOST_TABLES : CF K "MOST_TABLES" (.int 4))
    (k_MOST_COLUMNS : CF K "MOST_COLUMNS" (.int 4))
    (t_NO_NAMES : TU K aNO_NAMES [V.str (T [116, 97, 98, 108, 101]), V.str (T [110, 117, 109, 98, 101, 114]), V.str (T [102, 114, 111, 109]), V.str (T [116, 111]), V.str (T [114, 101, 102]), V.str (T [110, 111, 110, 101]), V.str (T [99, 97, 115, 99, 97, 100, 101]), V.str (T [99, 108, 101, 97, 114]), V.str (T [117, 110, 105, 113, 117, 101])])
    (k_NO_TOKEN : CF K "NO_TOKEN" (.int 1))
    (k_NOT_AS_TOLD : CF K "NOT_AS_TOLD" (.int 2))
    (k_CANNOT_STAND : CF K "CANNOT_STAND" (.int 3))
    (k_ENDS_EARLY : CF K "ENDS_EARLY" (.int 4))
    (k_TOO_MANY : CF K "TOO_MANY" (.int 5))
    (k_NAMED_TWICE : CF K "NAMED_TWICE" (.int 6))
    (k_NO_SUCH_TABLE : CF K "NO_SUCH_TABLE" (.int 7))
    (k_AT_ODDS : CF K "AT_ODDS" (.int 8))
    (k_MOST_ROWS : CF K "MOST_ROWS" (.int 8))
    (k_GREATEST_ID : CF K "GREATEST_ID" (.int 99))
    (k_OUT_OF_RANGE : CF K "OUT_OF_RANGE" (.int 2))
    (k_NO_SUCH_ROW : CF K "NO_SUCH_ROW" (.int 3))
    (k_NOT_UNIQUE : CF K "NOT_UNIQUE" (.int 4))
    (k_TOO_MANY_ROWS : CF K "TOO_MANY_ROWS" (.int 5))
    (k_NOTHING_BROKEN : CF K "NOTHING_BROKEN" (.int 0))
    (k_LONGEST_TEXT : CF K "LONGEST_TEXT" (.int 4096))
    (k_GREATEST_BYTE : CF K "GREATEST_BYTE" (.int 255))
    (k_NO_BYTE : CF K "NO_BYTE" (.int (-1)))
    (k_TOO_LONG : CF K "TOO_LONG" (.int (-2)))
    (k_NO_SESSION : CF K "NO_SESSION" (.int (-3)))
    (k_NOT_ROWS : CF K "NOT_ROWS" (.int (-4)))
    (k_NO_MODE : CF K "NO_MODE" (.int (-8)))
    (k_NO_CHOICE : CF K "NO_CHOICE" (.int (-12)))
    (k_OTHER_COUNT : CF K "OTHER_COUNT" (.int 1))
    (k_NOT_GOOD : CF K "NOT_GOOD" (.int 2))
    (k_SAME_STORE : CF K "SAME_STORE" (.int 1))
    (k_UNLIKE_STORES : CF K "UNLIKE_STORES" (.int 0))
    (k_NOT_BOTH_ORDERS : CF K "NOT_BOTH_ORDERS" (.int 2))
    (t_SESSIONS : TU K aSESSIONS [V.int 0, V.int 1])
    (k_STORE : CF K "STORE" (.int 2))
    (t_MODES : TU K aMODES [V.int 0, V.int 1])
    (k_BY_FIELDS : CF K "BY_FIELDS" (.int 1))
    (t_CHOICES : TU K aCHOICES [V.int 0, V.int 1])
    (b_len : PySem.W.nsIn K mainGlobals "len" = some none)
    (b_range : PySem.W.nsIn K mainGlobals "range" = some none)
    (b_enumerate : PySem.W.nsIn K mainGlobals "enumerate" = some none)
    (b_sorted : PySem.W.nsIn K mainGlobals "sorted" = some none)
    (b_set : PySem.W.nsIn K mainGlobals "set" = some none)
    (b_sum : PySem.W.nsIn K mainGlobals "sum" = some none)
    (b_any : PySem.W.nsIn K mainGlobals "any" = some none)
    (b_all : PySem.W.nsIn K mainGlobals "all" = some none)
    (b_abs : PySem.W.nsIn K mainGlobals "abs" = some none)
    (b_ord : PySem.W.nsIn K mainGlobals "ord" = some none)
    (b_int : PySem.W.nsIn K mainGlobals "int" = some none)
    (b_str : PySem.W.nsIn K mainGlobals "str" = some none)
    (b_tuple : PySem.W.nsIn K mainGlobals "tuple" = some none)
    (b_Exception : PySem.W.nsIn K mainGlobals "Exception" = some none)
    (b_zip : PySem.W.nsIn K mainGlobals "zip" = some none)
    (b_list : PySem.W.nsIn K mainGlobals "list" = some none)
    (cl_Table : Cls K aTable)
    (n_Table_name : PySem.W.findIn K (.ref aTable) "name" = some none)
    (n_Table_columns : PySem.W.findIn K (.ref aTable) "columns" = some none)
    (cl_Column : Cls K aColumn)
    (n_Column_name : PySem.W.findIn K (.ref aColumn) "name" = some none)
    (n_Column_low : PySem.W.findIn K (.ref aColumn) "low" = some none)
    (n_Column_high : PySem.W.findIn K (.ref aColumn) "high" = some none)
    (n_Column_target : PySem.W.findIn K (.ref aColumn) "target" = some none)
    (n_Column_allows_none : PySem.W.findIn K (.ref aColumn) "allows_none" = some none)
    (n_Column_removal : PySem.W.findIn K (.ref aColumn) "removal" = some none)
    (n_Column_unique : PySem.W.findIn K (.ref aColumn) "unique" = some none)
    (e_FirstFault : EcC K aFirstFault)
    (xf_FirstFault : XfC K aFirstFault)
    (ic_FirstFault : PySem.W.isClsIn K aFirstFault = true)
    (ss_FirstFault : PySem.W.subIn K (.ref aFirstFault) (.ref aFirstFault) = some true)
    (n_FirstFault_kind : PySem.W.findIn K (.ref aFirstFault) "kind" = some none)
    (n_FirstFault_place : PySem.W.findIn K (.ref aFirstFault) "place" = some none)
    (cl_SchemaReader : Cls K aSchemaReader)
    (n_SchemaReader_tokens : PySem.W.findIn K (.ref aSchemaReader) "tokens" = some none)
    (n_SchemaReader_position : PySem.W.findIn K (.ref aSchemaReader) "position" = some none)
    (n_SchemaReader_schema : PySem.W.findIn K (.ref aSchemaReader) "schema" = some none)
    (n_SchemaReader_references : PySem.W.findIn K (.ref aSchemaReader) "references" = some none)
    (cl_Held : Cls K aHeld)
    (n_Held_schema : PySem.W.findIn K (.ref aHeld) "schema" = some none)
    (n_Held_commits : PySem.W.findIn K (.ref aHeld) "commits" = some none)
    (n_Held_store : PySem.W.findIn K (.ref aHeld) "store" = some none)
    (n_Held_began : PySem.W.findIn K (.ref aHeld) "began" = some none)
    (n_Held_own : PySem.W.findIn K (.ref aHeld) "own" = some none) :
    Tp K mg ⟨aTable, aColumn, aFirstFault, aSchemaReader, aHeld, aSINGLE_NUMBERS, aHAS_LIST, aNO_NAMES, aSESSIONS, aMODES, aCHOICES⟩ :=
  ⟨cf_ok KX G k_LOAD,
   cf_ok KX G k_WRITTEN,
   cf_ok KX G k_FILL,
   cf_ok KX G k_SET,
   cf_ok KX G k_CHANGED,
   cf_ok KX G k_CLASHES,
   cf_ok KX G k_MERGED,
   cf_ok KX G k_COMMIT,
   cf_ok KX G k_REFRESH,
   cf_ok KX G k_TABLES,
   cf_ok KX G k_ORDERS,
   ⟨_, PySem.W.mg_of KX G a_SINGLE_NUMBERS, rfl⟩,
   tu_ok t_SINGLE_NUMBERS,
   ⟨_, PySem.W.mg_of KX G a_HAS_LIST, rfl⟩,
   tu_ok t_HAS_LIST,
   cf_ok KX G k_ADDED,
   cf_ok KX G k_ALTERED,
   cf_ok KX G k_REMOVED,
   cf_ok KX G k_BOTH_ALTERED,
   cf_ok KX G k_STORE_REMOVED,
   cf_ok KX G k_SESSION_REMOVED,
   cf_ok KX G k_BOTH_ADDED,
   cf_ok KX G k_WHOLE_ROW,
   cf_ok KX G k_OF_THE_SESSION,
   cf_ok KX G k_FARTHEST,
   cf_ok KX G k_LETTERS,
   cf_ok KX G k_DIGITS,
   cf_ok KX G k_WORD_SIGNS,
   cf_ok KX G k_SIGNS,
   cf_ok KX G k_BLANKS,
   cf_ok KX G k_KNOWN_SIGNS,
   cf_ok KX G k_UNKNOWN_SIGN,
   cf_ok KX G k_LONGEST_WORD,
   cf_ok KX G k_MOST_DIGITS,
   cf_ok KX G k_GREATEST_NUMBER,
   cf_ok KX G k_WORD,
   cf_ok KX G k_NUMBER,
   cf_ok KX G k_SIGN,
   cf_ok KX G k_END,
   cf_ok KX G k_STRAY,
   cf_ok KX G k_MALFORMED,
   cf_ok KX G k_MOST_TABLES,
   cf_ok KX G k_MOST_COLUMNS,
   ⟨_, PySem.W.mg_of KX G a_NO_NAMES, rfl⟩,
   tu_ok t_NO_NAMES,
   cf_ok KX G k_NO_TOKEN,
   cf_ok KX G k_NOT_AS_TOLD,
   cf_ok KX G k_CANNOT_STAND,
   cf_ok KX G k_ENDS_EARLY,
   cf_ok KX G k_TOO_MANY,
   cf_ok KX G k_NAMED_TWICE,
   cf_ok KX G k_NO_SUCH_TABLE,
   cf_ok KX G k_AT_ODDS,
   cf_ok KX G k_MOST_ROWS,
   cf_ok KX G k_GREATEST_ID,
   cf_ok KX G k_OUT_OF_RANGE,
   cf_ok KX G k_NO_SUCH_ROW,
   cf_ok KX G k_NOT_UNIQUE,
   cf_ok KX G k_TOO_MANY_ROWS,
   cf_ok KX G k_NOTHING_BROKEN,
   cf_ok KX G k_LONGEST_TEXT,
   cf_ok KX G k_GREATEST_BYTE,
   cf_ok KX G k_NO_BYTE,
   cf_ok KX G k_TOO_LONG,
   cf_ok KX G k_NO_SESSION,
   cf_ok KX G k_NOT_ROWS,
   cf_ok KX G k_NO_MODE,
   cf_ok KX G k_NO_CHOICE,
   cf_ok KX G k_OTHER_COUNT,
   cf_ok KX G k_NOT_GOOD,
   cf_ok KX G k_SAME_STORE,
   cf_ok KX G k_UNLIKE_STORES,
   cf_ok KX G k_NOT_BOTH_ORDERS,
   ⟨_, PySem.W.mg_of KX G a_SESSIONS, rfl⟩,
   tu_ok t_SESSIONS,
   cf_ok KX G k_STORE,
   ⟨_, PySem.W.mg_of KX G a_MODES, rfl⟩,
   tu_ok t_MODES,
   cf_ok KX G k_BY_FIELDS,
   ⟨_, PySem.W.mg_of KX G a_CHOICES, rfl⟩,
   tu_ok t_CHOICES,
   PySem.W.mg_none_of KX G b_len,
   PySem.W.mg_none_of KX G b_range,
   PySem.W.mg_none_of KX G b_enumerate,
   PySem.W.mg_none_of KX G b_sorted,
   PySem.W.mg_none_of KX G b_set,
   PySem.W.mg_none_of KX G b_sum,
   PySem.W.mg_none_of KX G b_any,
   PySem.W.mg_none_of KX G b_all,
   PySem.W.mg_none_of KX G b_abs,
   PySem.W.mg_none_of KX G b_ord,
   PySem.W.mg_none_of KX G b_int,
   PySem.W.mg_none_of KX G b_str,
   PySem.W.mg_none_of KX G b_tuple,
   PySem.W.mg_none_of KX G b_Exception,
   PySem.W.mg_none_of KX G b_zip,
   PySem.W.mg_none_of KX G b_list,
   PySem.W.mg_of KX G a_Table,
   cl_Table,
   n_Table_name,
   n_Table_columns,
   PySem.W.mg_of KX G a_Column,
   cl_Column,
   n_Column_name,
   n_Column_low,
   n_Column_high,
   n_Column_target,
   n_Column_allows_none,
   n_Column_removal,
   n_Column_unique,
   PySem.W.mg_of KX G a_FirstFault,
   e_FirstFault,
   n_FirstFault_kind,
   n_FirstFault_place,
   PySem.W.mg_of KX G a_SchemaReader,
   cl_SchemaReader,
   n_SchemaReader_tokens,
   n_SchemaReader_position,
   n_SchemaReader_schema,
   n_SchemaReader_references,
   PySem.W.mg_of KX G a_Held,
   cl_Held,
   n_Held_schema,
   n_Held_commits,
   n_Held_store,
   n_Held_began,
   n_Held_own⟩
variable {ad : Ads}
theorem all_ok (KX : K.In h) (G : h.Ns mainGlobals mg) (T : Tp K mg ad) (XF_ : XfC K ad.FirstFault) (xm_ : PySem.W.exmOne K (.ref ad.FirstFault) (.ref ad.FirstFault) = some true)
    (g_past_run : GF K "past_run" s_past_run)
    (g_past_remark : GF K "past_remark" s_past_remark)
    (g_past_blanks : GF K "past_blanks" s_past_blanks)
    (g_token_end : GF K "token_end" s_token_end)
    (g_is_number : GF K "is_number" s_is_number)
    (g_sort_of : GF K "sort_of" s_sort_of)
    (g_tokens_of : GF K "tokens_of" s_tokens_of)
    (g_characters_of : GF K "characters_of" s_characters_of)
    (g_FirstFault_init : XF K ad.FirstFault "FirstFault.__init__" s_FirstFault_init)
    (g_SchemaReader_sort_here : MF K ad.SchemaReader "sort_here" "SchemaReader.sort_here" s_SchemaReader_sort_here)
    (g_SchemaReader_token_here : MF K ad.SchemaReader "token_here" "SchemaReader.token_here" s_SchemaReader_token_here)
    (g_SchemaReader_place_here : MF K ad.SchemaReader "place_here" "SchemaReader.place_here" s_SchemaReader_place_here)
    (g_fault_of : GF K "fault_of" s_fault_of)
    (g_SchemaReader_refuse_token : MF K ad.SchemaReader "refuse_token" "SchemaReader.refuse_token" s_SchemaReader_refuse_token)
    (g_SchemaReader_take_any : MF K ad.SchemaReader "take_any" "SchemaReader.take_any" s_SchemaReader_take_any)
    (g_SchemaReader_take_if : MF K ad.SchemaReader "take_if" "SchemaReader.take_if" s_SchemaReader_take_if)
    (g_SchemaReader_take : MF K ad.SchemaReader "take" "SchemaReader.take" s_SchemaReader_take)
    (g_SchemaReader_take_name : MF K ad.SchemaReader "take_name" "SchemaReader.take_name" s_SchemaReader_take_name)
    (g_Column_init : IF K ad.Column "Column.__init__" s_Column_init)
    (g_Table_init : IF K ad.Table "Table.__init__" s_Table_init)
    (g_SchemaReader_take_new_name : MF K ad.SchemaReader "take_new_name" "SchemaReader.take_new_name" s_SchemaReader_take_new_name)
    (g_SchemaReader_read_bound : MF K ad.SchemaReader "read_bound" "SchemaReader.read_bound" s_SchemaReader_read_bound)
    (g_SchemaReader_read_range : MF K ad.SchemaReader "read_range" "SchemaReader.read_range" s_SchemaReader_read_range)
    (g_SchemaReader_read_reference : MF K ad.SchemaReader "read_reference" "SchemaReader.read_reference" s_SchemaReader_read_reference)
    (g_SchemaReader_read_column : MF K ad.SchemaReader "read_column" "SchemaReader.read_column" s_SchemaReader_read_column)
    (g_SchemaReader_read_table : MF K ad.SchemaReader "read_table" "SchemaReader.read_table" s_SchemaReader_read_table)
    (g_SchemaReader_find_targets : MF K ad.SchemaReader "find_targets" "SchemaReader.find_targets" s_SchemaReader_find_targets)
    (g_SchemaReader_read_all : MF K ad.SchemaReader "read_all" "SchemaReader.read_all" s_SchemaReader_read_all)
    (g_SchemaReader_init : IF K ad.SchemaReader "SchemaReader.__init__" s_SchemaReader_init)
    (g_read_schema : GF K "read_schema" s_read_schema)
    (g_number_kind : GF K "number_kind" s_number_kind)
    (g_reference_kind : GF K "reference_kind" s_reference_kind)
    (g_column_line : GF K "column_line" s_column_line)
    (g_schema_text : GF K "schema_text" s_schema_text)
    (g_is_row_count : GF K "is_row_count" s_is_row_count)
    (g_are_values : GF K "are_values" s_are_values)
    (g_read_rows : GF K "read_rows" s_read_rows)
    (g_read_tables : GF K "read_tables" s_read_tables)
    (g_value_broken : GF K "value_broken" s_value_broken)
    (g_row_broken : GF K "row_broken" s_row_broken)
    (g_first_broken : GF K "first_broken" s_first_broken)
    (g_change_of : GF K "change_of" s_change_of)
    (g_added_clashes : GF K "added_clashes" s_added_clashes)
    (g_altered_clashes : GF K "altered_clashes" s_altered_clashes)
    (g_row_clashes : GF K "row_clashes" s_row_clashes)
    (g_find_clashes : GF K "find_clashes" s_find_clashes)
    (g_changed_rows : GF K "changed_rows" s_changed_rows)
    (g_merged_one : GF K "merged_one" s_merged_one)
    (g_merged_fields : GF K "merged_fields" s_merged_fields)
    (g_merged_row : GF K "merged_row" s_merged_row)
    (g_merged_tables : GF K "merged_tables" s_merged_tables)
    (g_choices_by_row : GF K "choices_by_row" s_choices_by_row)
    (g_numbers_of : GF K "numbers_of" s_numbers_of)
    (g_first_unfit : GF K "first_unfit" s_first_unfit)
    (g_counted : GF K "counted" s_counted)
    (g_Held_changed_by : MF K ad.Held "changed_by" "Held.changed_by" s_Held_changed_by)
    (g_Held_clashes_of : MF K ad.Held "clashes_of" "Held.clashes_of" s_Held_clashes_of)
    (g_Held_changed : MF K ad.Held "changed" "Held.changed" s_Held_changed)
    (g_Held_clashes : MF K ad.Held "clashes" "Held.clashes" s_Held_clashes)
    (g_Held_begin_with : MF K ad.Held "begin_with" "Held.begin_with" s_Held_begin_with)
    (g_Held_init : IF K ad.Held "Held.__init__" s_Held_init)
    (g_Held_judge_tables : MF K ad.Held "judge_tables" "Held.judge_tables" s_Held_judge_tables)
    (g_Held_fill : MF K ad.Held "fill" "Held.fill" s_Held_fill)
    (g_Held_set_own : MF K ad.Held "set_own" "Held.set_own" s_Held_set_own)
    (g_Held_load : MF K ad.Held "load" "Held.load" s_Held_load)
    (g_Held_written : MF K ad.Held "written" "Held.written" s_Held_written)
    (g_Held_tables : MF K ad.Held "tables" "Held.tables" s_Held_tables)
    (g_Held_size : MF K ad.Held "size" "Held.size" s_Held_size)
    (g_Held_merge : MF K ad.Held "merge" "Held.merge" s_Held_merge)
    (g_Held_merged : MF K ad.Held "merged" "Held.merged" s_Held_merged)
    (g_Held_commit : MF K ad.Held "commit" "Held.commit" s_Held_commit)
    (g_Held_refresh : MF K ad.Held "refresh" "Held.refresh" s_Held_refresh)
    (g_Held_twin : MF K ad.Held "twin" "Held.twin" s_Held_twin)
    (g_Held_store_behind : MF K ad.Held "store_behind" "Held.store_behind" s_Held_store_behind)
    (g_Held_orders : MF K ad.Held "orders" "Held.orders" s_Held_orders)
    (g_answer_call : GF K "answer_call" s_answer_call)
    (g_read_calls : GF K "read_calls" s_read_calls)
    (g_answers : GF K "answers" s_answers) :
    ∃ f fd, mg "answers" = some (.ref f) ∧ (∀ (s : Shared) (us : List Value), us.length = (["calls"] : List Str).length → BindsTo s fd ⟨us, []⟩ ((["calls"] : List Str).zip us)) ∧ ∀ base : Heap, FnOk P w K mg base CX0 12 f fd ["calls"] (sp_answers K) := by
  obtain ⟨f_past_run, d_past_run, n_past_run, k_past_run, F_past_run⟩ := gf_ok KX G g_past_run
  have B_past_run := F_past_run.binds (ps := ["text", "place", "signs"]) fun _ _ _ _ _ _ us hl => match us, hl with | [_, _, _], _ => rfl
  obtain ⟨f_past_remark, d_past_remark, n_past_remark, k_past_remark, F_past_remark⟩ := gf_ok KX G g_past_remark
  have B_past_remark := F_past_remark.binds (ps := ["text", "place"]) fun _ _ _ _ _ _ us hl => match us, hl with | [_, _], _ => rfl
  obtain ⟨f_past_blanks, d_past_blanks, n_past_blanks, k_past_blanks, F_past_blanks⟩ := gf_ok KX G g_past_blanks
  have B_past_blanks := F_past_blanks.binds (ps := ["text", "place"]) fun _ _ _ _ _ _ us hl => match us, hl with | [_, _], _ => rfl
  obtain ⟨f_token_end, d_token_end, n_token_end, k_token_end, F_token_end⟩ := gf_ok KX G g_token_end
  have B_token_end := F_token_end.binds (ps := ["text", "place"]) fun _ _ _ _ _ _ us hl => match us, hl with | [_, _], _ => rfl
  obtain ⟨f_is_number, d_is_number, n_is_number, k_is_number, F_is_number⟩ := gf_ok KX G g_is_number
  have B_is_number := F_is_number.binds (ps := ["digits"]) fun _ _ _ _ _ _ us hl => match us, hl with | [_], _ => rfl
  obtain ⟨f_sort_of, d_sort_of, n_sort_of, k_sort_of, F_sort_of⟩ := gf_ok KX G g_sort_of
  have B_sort_of := F_sort_of.binds (ps := ["token"]) fun _ _ _ _ _ _ us hl => match us, hl with | [_], _ => rfl
  obtain ⟨f_tokens_of, d_tokens_of, n_tokens_of, k_tokens_of, F_tokens_of⟩ := gf_ok KX G g_tokens_of
  have B_tokens_of := F_tokens_of.binds (ps := ["text"]) fun _ _ _ _ _ _ us hl => match us, hl with | [_], _ => rfl
  obtain ⟨f_characters_of, d_characters_of, n_characters_of, k_characters_of, F_characters_of⟩ := gf_ok KX G g_characters_of
  have B_characters_of := F_characters_of.binds (ps := ["numbers"]) fun _ _ _ _ _ _ us hl => match us, hl with | [_], _ => rfl
  obtain ⟨f_FirstFault_init, d_FirstFault_init, n_FirstFault_init, k_FirstFault_init, F_FirstFault_init⟩ := xf_ok g_FirstFault_init
  have B_FirstFault_init := F_FirstFault_init.binds (ps := ["self", "kind", "place"]) fun _ _ _ _ _ _ us hl => match us, hl with | [_, _, _], _ => rfl
  obtain ⟨f_SchemaReader_sort_here, d_SchemaReader_sort_here, n_SchemaReader_sort_here, F_SchemaReader_sort_here⟩ := mf_ok g_SchemaReader_sort_here
  have B_SchemaReader_sort_here := F_SchemaReader_sort_here.binds (ps := ["self"]) fun _ _ _ _ _ _ us hl => match us, hl with | [_], _ => rfl
  obtain ⟨f_SchemaReader_token_here, d_SchemaReader_token_here, n_SchemaReader_token_here, F_SchemaReader_token_here⟩ := mf_ok g_SchemaReader_token_here
  have B_SchemaReader_token_here := F_SchemaReader_token_here.binds (ps := ["self"]) fun _ _ _ _ _ _ us hl => match us, hl with | [_], _ => rfl
  obtain ⟨f_SchemaReader_place_here, d_SchemaReader_place_here, n_SchemaReader_place_here, F_SchemaReader_place_here⟩ := mf_ok g_SchemaReader_place_here
  have B_SchemaReader_place_here := F_SchemaReader_place_here.binds (ps := ["self"]) fun _ _ _ _ _ _ us hl => match us, hl with | [_], _ => rfl
  obtain ⟨f_fault_of, d_fault_of, n_fault_of, k_fault_of, F_fault_of⟩ := gf_ok KX G g_fault_of
  have B_fault_of := F_fault_of.binds (ps := ["sort"]) fun _ _ _ _ _ _ us hl => match us, hl with | [_], _ => rfl
  obtain ⟨f_SchemaReader_refuse_token, d_SchemaReader_refuse_token, n_SchemaReader_refuse_token, F_SchemaReader_refuse_token⟩ := mf_ok g_SchemaReader_refuse_token
  have B_SchemaReader_refuse_token := F_SchemaReader_refuse_token.binds (ps := ["self"]) fun _ _ _ _ _ _ us hl => match us, hl with | [_], _ => rfl
  obtain ⟨f_SchemaReader_take_any, d_SchemaReader_take_any, n_SchemaReader_take_any, F_SchemaReader_take_any⟩ := mf_ok g_SchemaReader_take_any
  have B_SchemaReader_take_any := F_SchemaReader_take_any.binds (ps := ["self"]) fun _ _ _ _ _ _ us hl => match us, hl with | [_], _ => rfl
  obtain ⟨f_SchemaReader_take_if, d_SchemaReader_take_if, n_SchemaReader_take_if, F_SchemaReader_take_if⟩ := mf_ok g_SchemaReader_take_if
  have B_SchemaReader_take_if := F_SchemaReader_take_if.binds (ps := ["self", "wanted"]) fun _ _ _ _ _ _ us hl => match us, hl with | [_, _], _ => rfl
  obtain ⟨f_SchemaReader_take, d_SchemaReader_take, n_SchemaReader_take, F_SchemaReader_take⟩ := mf_ok g_SchemaReader_take
  have B_SchemaReader_take := F_SchemaReader_take.binds (ps := ["self", "wanted"]) fun _ _ _ _ _ _ us hl => match us, hl with | [_, _], _ => rfl
  obtain ⟨f_SchemaReader_take_name, d_SchemaReader_take_name, n_SchemaReader_take_name, F_SchemaReader_take_name⟩ := mf_ok g_SchemaReader_take_name
  have B_SchemaReader_take_name := F_SchemaReader_take_name.binds (ps := ["self"]) fun _ _ _ _ _ _ us hl => match us, hl with | [_], _ => rfl
  obtain ⟨f_Column_init, d_Column_init, n_Column_init, F_Column_init⟩ := if_ok g_Column_init
  have B_Column_init := F_Column_init.binds (ps := ["self", "name"]) fun _ _ _ _ _ _ us hl => match us, hl with | [_, _], _ => rfl
  obtain ⟨f_Table_init, d_Table_init, n_Table_init, F_Table_init⟩ := if_ok g_Table_init
  have B_Table_init := F_Table_init.binds (ps := ["self", "name", "columns"]) fun _ _ _ _ _ _ us hl => match us, hl with | [_, _, _], _ => rfl
  obtain ⟨f_SchemaReader_take_new_name, d_SchemaReader_take_new_name, n_SchemaReader_take_new_name, F_SchemaReader_take_new_name⟩ := mf_ok g_SchemaReader_take_new_name
  have B_SchemaReader_take_new_name := F_SchemaReader_take_new_name.binds (ps := ["self", "earlier"]) fun _ _ _ _ _ _ us hl => match us, hl with | [_, _], _ => rfl
  obtain ⟨f_SchemaReader_read_bound, d_SchemaReader_read_bound, n_SchemaReader_read_bound, F_SchemaReader_read_bound⟩ := mf_ok g_SchemaReader_read_bound
  have B_SchemaReader_read_bound := F_SchemaReader_read_bound.binds (ps := ["self"]) fun _ _ _ _ _ _ us hl => match us, hl with | [_], _ => rfl
  obtain ⟨f_SchemaReader_read_range, d_SchemaReader_read_range, n_SchemaReader_read_range, F_SchemaReader_read_range⟩ := mf_ok g_SchemaReader_read_range
  have B_SchemaReader_read_range := F_SchemaReader_read_range.binds (ps := ["self", "column"]) fun _ _ _ _ _ _ us hl => match us, hl with | [_, _], _ => rfl
  obtain ⟨f_SchemaReader_read_reference, d_SchemaReader_read_reference, n_SchemaReader_read_reference, F_SchemaReader_read_reference⟩ := mf_ok g_SchemaReader_read_reference
  have B_SchemaReader_read_reference := F_SchemaReader_read_reference.binds (ps := ["self", "column"]) fun _ _ _ _ _ _ us hl => match us, hl with | [_, _], _ => rfl
  obtain ⟨f_SchemaReader_read_column, d_SchemaReader_read_column, n_SchemaReader_read_column, F_SchemaReader_read_column⟩ := mf_ok g_SchemaReader_read_column
  have B_SchemaReader_read_column := F_SchemaReader_read_column.binds (ps := ["self", "earlier"]) fun _ _ _ _ _ _ us hl => match us, hl with | [_, _], _ => rfl
  obtain ⟨f_SchemaReader_read_table, d_SchemaReader_read_table, n_SchemaReader_read_table, F_SchemaReader_read_table⟩ := mf_ok g_SchemaReader_read_table
  have B_SchemaReader_read_table := F_SchemaReader_read_table.binds (ps := ["self"]) fun _ _ _ _ _ _ us hl => match us, hl with | [_], _ => rfl
  obtain ⟨f_SchemaReader_find_targets, d_SchemaReader_find_targets, n_SchemaReader_find_targets, F_SchemaReader_find_targets⟩ := mf_ok g_SchemaReader_find_targets
  have B_SchemaReader_find_targets := F_SchemaReader_find_targets.binds (ps := ["self"]) fun _ _ _ _ _ _ us hl => match us, hl with | [_], _ => rfl
  obtain ⟨f_SchemaReader_read_all, d_SchemaReader_read_all, n_SchemaReader_read_all, F_SchemaReader_read_all⟩ := mf_ok g_SchemaReader_read_all
  have B_SchemaReader_read_all := F_SchemaReader_read_all.binds (ps := ["self"]) fun _ _ _ _ _ _ us hl => match us, hl with | [_], _ => rfl
  obtain ⟨f_SchemaReader_init, d_SchemaReader_init, n_SchemaReader_init, F_SchemaReader_init⟩ := if_ok g_SchemaReader_init
  have B_SchemaReader_init := F_SchemaReader_init.binds (ps := ["self", "tokens"]) fun _ _ _ _ _ _ us hl => match us, hl with | [_, _], _ => rfl
  obtain ⟨f_read_schema, d_read_schema, n_read_schema, k_read_schema, F_read_schema⟩ := gf_ok KX G g_read_schema
  have B_read_schema := F_read_schema.binds (ps := ["numbers"]) fun _ _ _ _ _ _ us hl => match us, hl with | [_], _ => rfl
  obtain ⟨f_number_kind, d_number_kind, n_number_kind, k_number_kind, F_number_kind⟩ := gf_ok KX G g_number_kind
  have B_number_kind := F_number_kind.binds (ps := ["column"]) fun _ _ _ _ _ _ us hl => match us, hl with | [_], _ => rfl
  obtain ⟨f_reference_kind, d_reference_kind, n_reference_kind, k_reference_kind, F_reference_kind⟩ := gf_ok KX G g_reference_kind
  have B_reference_kind := F_reference_kind.binds (ps := ["schema", "column"]) fun _ _ _ _ _ _ us hl => match us, hl with | [_, _], _ => rfl
  obtain ⟨f_column_line, d_column_line, n_column_line, k_column_line, F_column_line⟩ := gf_ok KX G g_column_line
  have B_column_line := F_column_line.binds (ps := ["schema", "column"]) fun _ _ _ _ _ _ us hl => match us, hl with | [_, _], _ => rfl
  obtain ⟨f_schema_text, d_schema_text, n_schema_text, k_schema_text, F_schema_text⟩ := gf_ok KX G g_schema_text
  have B_schema_text := F_schema_text.binds (ps := ["schema"]) fun _ _ _ _ _ _ us hl => match us, hl with | [_], _ => rfl
  obtain ⟨f_is_row_count, d_is_row_count, n_is_row_count, k_is_row_count, F_is_row_count⟩ := gf_ok KX G g_is_row_count
  have B_is_row_count := F_is_row_count.binds (ps := ["number"]) fun _ _ _ _ _ _ us hl => match us, hl with | [_], _ => rfl
  obtain ⟨f_are_values, d_are_values, n_are_values, k_are_values, F_are_values⟩ := gf_ok KX G g_are_values
  have B_are_values := F_are_values.binds (ps := ["row"]) fun _ _ _ _ _ _ us hl => match us, hl with | [_], _ => rfl
  obtain ⟨f_read_rows, d_read_rows, n_read_rows, k_read_rows, F_read_rows⟩ := gf_ok KX G g_read_rows
  have B_read_rows := F_read_rows.binds (ps := ["numbers", "width"]) fun _ _ _ _ _ _ us hl => match us, hl with | [_, _], _ => rfl
  obtain ⟨f_read_tables, d_read_tables, n_read_tables, k_read_tables, F_read_tables⟩ := gf_ok KX G g_read_tables
  have B_read_tables := F_read_tables.binds (ps := ["schema", "numbers"]) fun _ _ _ _ _ _ us hl => match us, hl with | [_, _], _ => rfl
  obtain ⟨f_value_broken, d_value_broken, n_value_broken, k_value_broken, F_value_broken⟩ := gf_ok KX G g_value_broken
  have B_value_broken := F_value_broken.binds (ps := ["column", "value", "others", "tables"]) fun _ _ _ _ _ _ us hl => match us, hl with | [_, _, _, _], _ => rfl
  obtain ⟨f_row_broken, d_row_broken, n_row_broken, k_row_broken, F_row_broken⟩ := gf_ok KX G g_row_broken
  have B_row_broken := F_row_broken.binds (ps := ["schema", "tables", "number", "row_id"]) fun _ _ _ _ _ _ us hl => match us, hl with | [_, _, _, _], _ => rfl
  obtain ⟨f_first_broken, d_first_broken, n_first_broken, k_first_broken, F_first_broken⟩ := gf_ok KX G g_first_broken
  have B_first_broken := F_first_broken.binds (ps := ["schema", "tables"]) fun _ _ _ _ _ _ us hl => match us, hl with | [_, _], _ => rfl
  obtain ⟨f_change_of, d_change_of, n_change_of, k_change_of, F_change_of⟩ := gf_ok KX G g_change_of
  have B_change_of := F_change_of.binds (ps := ["row_id", "began", "own"]) fun _ _ _ _ _ _ us hl => match us, hl with | [_, _, _], _ => rfl
  obtain ⟨f_added_clashes, d_added_clashes, n_added_clashes, k_added_clashes, F_added_clashes⟩ := gf_ok KX G g_added_clashes
  have B_added_clashes := F_added_clashes.binds (ps := ["store", "own"]) fun _ _ _ _ _ _ us hl => match us, hl with | [_, _], _ => rfl
  obtain ⟨f_altered_clashes, d_altered_clashes, n_altered_clashes, k_altered_clashes, F_altered_clashes⟩ := gf_ok KX G g_altered_clashes
  have B_altered_clashes := F_altered_clashes.binds (ps := ["began", "store", "own"]) fun _ _ _ _ _ _ us hl => match us, hl with | [_, _, _], _ => rfl
  obtain ⟨f_row_clashes, d_row_clashes, n_row_clashes, k_row_clashes, F_row_clashes⟩ := gf_ok KX G g_row_clashes
  have B_row_clashes := F_row_clashes.binds (ps := ["began", "store", "own", "by_fields"]) fun _ _ _ _ _ _ us hl => match us, hl with | [_, _, _, _], _ => rfl
  obtain ⟨f_find_clashes, d_find_clashes, n_find_clashes, k_find_clashes, F_find_clashes⟩ := gf_ok KX G g_find_clashes
  have B_find_clashes := F_find_clashes.binds (ps := ["began", "store", "own", "by_fields"]) fun _ _ _ _ _ _ us hl => match us, hl with | [_, _, _, _], _ => rfl
  obtain ⟨f_changed_rows, d_changed_rows, n_changed_rows, k_changed_rows, F_changed_rows⟩ := gf_ok KX G g_changed_rows
  have B_changed_rows := F_changed_rows.binds (ps := ["began", "own"]) fun _ _ _ _ _ _ us hl => match us, hl with | [_, _], _ => rfl
  obtain ⟨f_merged_one, d_merged_one, n_merged_one, k_merged_one, F_merged_one⟩ := gf_ok KX G g_merged_one
  have B_merged_one := F_merged_one.binds (ps := ["began", "store", "own", "choice"]) fun _ _ _ _ _ _ us hl => match us, hl with | [_, _, _, _], _ => rfl
  obtain ⟨f_merged_fields, d_merged_fields, n_merged_fields, k_merged_fields, F_merged_fields⟩ := gf_ok KX G g_merged_fields
  have B_merged_fields := F_merged_fields.binds (ps := ["began", "store", "own", "choices"]) fun _ _ _ _ _ _ us hl => match us, hl with | [_, _, _, _], _ => rfl
  obtain ⟨f_merged_row, d_merged_row, n_merged_row, k_merged_row, F_merged_row⟩ := gf_ok KX G g_merged_row
  have B_merged_row := F_merged_row.binds (ps := ["began", "store", "own", "by_fields", "choices"]) fun _ _ _ _ _ _ us hl => match us, hl with | [_, _, _, _, _], _ => rfl
  obtain ⟨f_merged_tables, d_merged_tables, n_merged_tables, k_merged_tables, F_merged_tables⟩ := gf_ok KX G g_merged_tables
  have B_merged_tables := F_merged_tables.binds (ps := ["began", "store", "own", "by_fields", "row_choices"]) fun _ _ _ _ _ _ us hl => match us, hl with | [_, _, _, _, _], _ => rfl
  obtain ⟨f_choices_by_row, d_choices_by_row, n_choices_by_row, k_choices_by_row, F_choices_by_row⟩ := gf_ok KX G g_choices_by_row
  have B_choices_by_row := F_choices_by_row.binds (ps := ["clashes", "choices"]) fun _ _ _ _ _ _ us hl => match us, hl with | [_, _], _ => rfl
  obtain ⟨f_numbers_of, d_numbers_of, n_numbers_of, k_numbers_of, F_numbers_of⟩ := gf_ok KX G g_numbers_of
  have B_numbers_of := F_numbers_of.binds (ps := ["tables"]) fun _ _ _ _ _ _ us hl => match us, hl with | [_], _ => rfl
  obtain ⟨f_first_unfit, d_first_unfit, n_first_unfit, k_first_unfit, F_first_unfit⟩ := gf_ok KX G g_first_unfit
  have B_first_unfit := F_first_unfit.binds (ps := ["schema", "tables"]) fun _ _ _ _ _ _ us hl => match us, hl with | [_, _], _ => rfl
  obtain ⟨f_counted, d_counted, n_counted, k_counted, F_counted⟩ := gf_ok KX G g_counted
  have B_counted := F_counted.binds (ps := ["found"]) fun _ _ _ _ _ _ us hl => match us, hl with | [_], _ => rfl
  obtain ⟨f_Held_changed_by, d_Held_changed_by, n_Held_changed_by, F_Held_changed_by⟩ := mf_ok g_Held_changed_by
  have B_Held_changed_by := F_Held_changed_by.binds (ps := ["self", "session"]) fun _ _ _ _ _ _ us hl => match us, hl with | [_, _], _ => rfl
  obtain ⟨f_Held_clashes_of, d_Held_clashes_of, n_Held_clashes_of, F_Held_clashes_of⟩ := mf_ok g_Held_clashes_of
  have B_Held_clashes_of := F_Held_clashes_of.binds (ps := ["self", "session", "mode"]) fun _ _ _ _ _ _ us hl => match us, hl with | [_, _, _], _ => rfl
  obtain ⟨f_Held_changed, d_Held_changed, n_Held_changed, F_Held_changed⟩ := mf_ok g_Held_changed
  have B_Held_changed := F_Held_changed.binds (ps := ["self", "session"]) fun _ _ _ _ _ _ us hl => match us, hl with | [_, _], _ => rfl
  obtain ⟨f_Held_clashes, d_Held_clashes, n_Held_clashes, F_Held_clashes⟩ := mf_ok g_Held_clashes
  have B_Held_clashes := F_Held_clashes.binds (ps := ["self", "session", "mode"]) fun _ _ _ _ _ _ us hl => match us, hl with | [_, _, _], _ => rfl
  obtain ⟨f_Held_begin_with, d_Held_begin_with, n_Held_begin_with, F_Held_begin_with⟩ := mf_ok g_Held_begin_with
  have B_Held_begin_with := F_Held_begin_with.binds (ps := ["self", "tables"]) fun _ _ _ _ _ _ us hl => match us, hl with | [_, _], _ => rfl
  obtain ⟨f_Held_init, d_Held_init, n_Held_init, F_Held_init⟩ := if_ok g_Held_init
  have B_Held_init := F_Held_init.binds (ps := ["self"]) fun _ _ _ _ _ _ us hl => match us, hl with | [_], _ => rfl
  obtain ⟨f_Held_judge_tables, d_Held_judge_tables, n_Held_judge_tables, F_Held_judge_tables⟩ := mf_ok g_Held_judge_tables
  have B_Held_judge_tables := F_Held_judge_tables.binds (ps := ["self", "tables"]) fun _ _ _ _ _ _ us hl => match us, hl with | [_, _], _ => rfl
  obtain ⟨f_Held_fill, d_Held_fill, n_Held_fill, F_Held_fill⟩ := mf_ok g_Held_fill
  have B_Held_fill := F_Held_fill.binds (ps := ["self", "numbers"]) fun _ _ _ _ _ _ us hl => match us, hl with | [_, _], _ => rfl
  obtain ⟨f_Held_set_own, d_Held_set_own, n_Held_set_own, F_Held_set_own⟩ := mf_ok g_Held_set_own
  have B_Held_set_own := F_Held_set_own.binds (ps := ["self", "session", "numbers"]) fun _ _ _ _ _ _ us hl => match us, hl with | [_, _, _], _ => rfl
  obtain ⟨f_Held_load, d_Held_load, n_Held_load, F_Held_load⟩ := mf_ok g_Held_load
  have B_Held_load := F_Held_load.binds (ps := ["self", "numbers"]) fun _ _ _ _ _ _ us hl => match us, hl with | [_, _], _ => rfl
  obtain ⟨f_Held_written, d_Held_written, n_Held_written, F_Held_written⟩ := mf_ok g_Held_written
  have B_Held_written := F_Held_written.binds (ps := ["self"]) fun _ _ _ _ _ _ us hl => match us, hl with | [_], _ => rfl
  obtain ⟨f_Held_tables, d_Held_tables, n_Held_tables, F_Held_tables⟩ := mf_ok g_Held_tables
  have B_Held_tables := F_Held_tables.binds (ps := ["self", "side"]) fun _ _ _ _ _ _ us hl => match us, hl with | [_, _], _ => rfl
  obtain ⟨f_Held_size, d_Held_size, n_Held_size, F_Held_size⟩ := mf_ok g_Held_size
  have B_Held_size := F_Held_size.binds (ps := ["self"]) fun _ _ _ _ _ _ us hl => match us, hl with | [_], _ => rfl
  obtain ⟨f_Held_merge, d_Held_merge, n_Held_merge, F_Held_merge⟩ := mf_ok g_Held_merge
  have B_Held_merge := F_Held_merge.binds (ps := ["self", "session", "mode", "choices"]) fun _ _ _ _ _ _ us hl => match us, hl with | [_, _, _, _], _ => rfl
  obtain ⟨f_Held_merged, d_Held_merged, n_Held_merged, F_Held_merged⟩ := mf_ok g_Held_merged
  have B_Held_merged := F_Held_merged.binds (ps := ["self", "session", "mode", "choices"]) fun _ _ _ _ _ _ us hl => match us, hl with | [_, _, _, _], _ => rfl
  obtain ⟨f_Held_commit, d_Held_commit, n_Held_commit, F_Held_commit⟩ := mf_ok g_Held_commit
  have B_Held_commit := F_Held_commit.binds (ps := ["self", "session", "mode", "choices"]) fun _ _ _ _ _ _ us hl => match us, hl with | [_, _, _, _], _ => rfl
  obtain ⟨f_Held_refresh, d_Held_refresh, n_Held_refresh, F_Held_refresh⟩ := mf_ok g_Held_refresh
  have B_Held_refresh := F_Held_refresh.binds (ps := ["self", "session", "mode", "choices"]) fun _ _ _ _ _ _ us hl => match us, hl with | [_, _, _, _], _ => rfl
  obtain ⟨f_Held_twin, d_Held_twin, n_Held_twin, F_Held_twin⟩ := mf_ok g_Held_twin
  have B_Held_twin := F_Held_twin.binds (ps := ["self"]) fun _ _ _ _ _ _ us hl => match us, hl with | [_], _ => rfl
  obtain ⟨f_Held_store_behind, d_Held_store_behind, n_Held_store_behind, F_Held_store_behind⟩ := mf_ok g_Held_store_behind
  have B_Held_store_behind := F_Held_store_behind.binds (ps := ["self", "order", "mode"]) fun _ _ _ _ _ _ us hl => match us, hl with | [_, _, _], _ => rfl
  obtain ⟨f_Held_orders, d_Held_orders, n_Held_orders, F_Held_orders⟩ := mf_ok g_Held_orders
  have B_Held_orders := F_Held_orders.binds (ps := ["self", "mode"]) fun _ _ _ _ _ _ us hl => match us, hl with | [_, _], _ => rfl
  obtain ⟨f_answer_call, d_answer_call, n_answer_call, k_answer_call, F_answer_call⟩ := gf_ok KX G g_answer_call
  have B_answer_call := F_answer_call.binds (ps := ["held", "call", "singles", "listed"]) fun _ _ _ _ _ _ us hl => match us, hl with | [_, _, _, _], _ => rfl
  obtain ⟨f_read_calls, d_read_calls, n_read_calls, k_read_calls, F_read_calls⟩ := gf_ok KX G g_read_calls
  have B_read_calls := F_read_calls.binds (ps := ["calls"]) fun _ _ _ _ _ _ us hl => match us, hl with | [_], _ => rfl
  obtain ⟨f_answers, d_answers, n_answers, k_answers, F_answers⟩ := gf_ok KX G g_answers
  refine ⟨f_answers, d_answers, n_answers, fun s us hu => match us, hu with | [_], _ => ?_, ?_⟩
  · obtain ⟨oc, od, kV, doc, pm, an, cdv, ct, osl, rfl, l, c⟩ := F_answers.ex
    exact .of_eq rfl
  intro base
  have c_past_run : Fc P w K mg base CX0 1 "past_run" ["text", "place", "signs"] sp_past_run := ⟨_, _, n_past_run, k_past_run, B_past_run, ok_past_run (P := P) (w := w) (base := base) (T := T) F_past_run⟩
  have c_past_remark : Fc P w K mg base CX0 1 "past_remark" ["text", "place"] sp_past_remark := ⟨_, _, n_past_remark, k_past_remark, B_past_remark, ok_past_remark (P := P) (w := w) (base := base) (T := T) F_past_remark⟩
  have c_past_blanks : Fc P w K mg base CX0 2 "past_blanks" ["text", "place"] sp_past_blanks := ⟨_, _, n_past_blanks, k_past_blanks, B_past_blanks, ok_past_blanks (P := P) (w := w) (base := base) (T := T) (c_past_remark := c_past_remark) F_past_blanks⟩
  have c_token_end : Fc P w K mg base CX0 2 "token_end" ["text", "place"] sp_token_end := ⟨_, _, n_token_end, k_token_end, B_token_end, ok_token_end (P := P) (w := w) (base := base) (T := T) (c_past_run := c_past_run) F_token_end⟩
  have c_is_number : Fc P w K mg base CX0 1 "is_number" ["digits"] sp_is_number := ⟨_, _, n_is_number, k_is_number, B_is_number, ok_is_number (P := P) (w := w) (base := base) (T := T) F_is_number⟩
  have c_sort_of : Fc P w K mg base CX0 2 "sort_of" ["token"] sp_sort_of := ⟨_, _, n_sort_of, k_sort_of, B_sort_of, ok_sort_of (P := P) (w := w) (base := base) (T := T) (c_is_number := c_is_number) F_sort_of⟩
  have c_tokens_of : Fc P w K mg base CX0 3 "tokens_of" ["text"] sp_tokens_of := ⟨_, _, n_tokens_of, k_tokens_of, B_tokens_of, ok_tokens_of (P := P) (w := w) (base := base) (T := T) (c_past_blanks := c_past_blanks) (c_token_end := c_token_end) (c_sort_of := c_sort_of) F_tokens_of⟩
  have c_characters_of : Fc P w K mg base CX0 1 "characters_of" ["numbers"] sp_characters_of := ⟨_, _, n_characters_of, k_characters_of, B_characters_of, ok_characters_of (P := P) (w := w) (base := base) (T := T) F_characters_of⟩
  have x_FirstFault : Xc P w K mg base 1 ad.FirstFault ["self", "kind", "place"] (sp_FirstFault_init ad.FirstFault) := ⟨_, _, n_FirstFault_init, k_FirstFault_init, B_FirstFault_init, ok_FirstFault_init (P := P) (w := w) (base := base) (T := T) F_FirstFault_init⟩
  have m_SchemaReader_sort_here : Mc P w K mg base CX0 1 ad.SchemaReader "sort_here" ["self"] (sp_here ad fun t => .str (Tw.T t.sort)) := ⟨_, _, n_SchemaReader_sort_here, B_SchemaReader_sort_here, ok_sort_here (P := P) (w := w) (base := base) (T := T) F_SchemaReader_sort_here⟩
  have m_SchemaReader_token_here : Mc P w K mg base CX0 1 ad.SchemaReader "token_here" ["self"] (sp_here ad fun t => .str (Tw.T t.txt)) := ⟨_, _, n_SchemaReader_token_here, B_SchemaReader_token_here, ok_token_here (P := P) (w := w) (base := base) (T := T) F_SchemaReader_token_here⟩
  have m_SchemaReader_place_here : Mc P w K mg base CX0 1 ad.SchemaReader "place_here" ["self"] (sp_here ad fun t => .int t.pl) := ⟨_, _, n_SchemaReader_place_here, B_SchemaReader_place_here, ok_place_here (P := P) (w := w) (base := base) (T := T) F_SchemaReader_place_here⟩
  have c_fault_of : Fc P w K mg base CX0 1 "fault_of" ["sort"] sp_fault_of := ⟨_, _, n_fault_of, k_fault_of, B_fault_of, ok_fault_of (P := P) (w := w) (base := base) (T := T) F_fault_of⟩
  have m_SchemaReader_refuse_token : Mc P w K mg base (L2.CX P w) 3 ad.SchemaReader "refuse_token" ["self"] (sp_refuse ad) := ⟨_, _, n_SchemaReader_refuse_token, B_SchemaReader_refuse_token, ok_refuse (P := P) (w := w) (base := base) (T := T) (c_fault_of := c_fault_of) (m_SchemaReader_sort_here := m_SchemaReader_sort_here) (m_SchemaReader_place_here := m_SchemaReader_place_here) (x_FirstFault := x_FirstFault) F_SchemaReader_refuse_token⟩
  have m_SchemaReader_take_any : Mc P w K mg base CX0 2 ad.SchemaReader "take_any" ["self"] (sp_take_any ad) := ⟨_, _, n_SchemaReader_take_any, B_SchemaReader_take_any, ok_take_any (P := P) (w := w) (base := base) (T := T) (m_SchemaReader_token_here := m_SchemaReader_token_here) F_SchemaReader_take_any⟩
  have m_SchemaReader_take_if : Mc P w K mg base CX0 2 ad.SchemaReader "take_if" ["self", "wanted"] (sp_take_if ad) := ⟨_, _, n_SchemaReader_take_if, B_SchemaReader_take_if, ok_take_if (P := P) (w := w) (base := base) (T := T) (m_SchemaReader_token_here := m_SchemaReader_token_here) F_SchemaReader_take_if⟩
  have m_SchemaReader_take : Mc P w K mg base (L2.CX P w) 4 ad.SchemaReader "take" ["self", "wanted"] (sp_take ad) := ⟨_, _, n_SchemaReader_take, B_SchemaReader_take, ok_take (P := P) (w := w) (base := base) (T := T) (m_SchemaReader_take_if := m_SchemaReader_take_if) (m_SchemaReader_refuse_token := m_SchemaReader_refuse_token) F_SchemaReader_take⟩
  have m_SchemaReader_take_name : Mc P w K mg base (L2.CX P w) 4 ad.SchemaReader "take_name" ["self"] (sp_take_name ad) := ⟨_, _, n_SchemaReader_take_name, B_SchemaReader_take_name, ok_take_name (P := P) (w := w) (base := base) (T := T) (m_SchemaReader_sort_here := m_SchemaReader_sort_here) (m_SchemaReader_token_here := m_SchemaReader_token_here) (m_SchemaReader_take_any := m_SchemaReader_take_any) (m_SchemaReader_refuse_token := m_SchemaReader_refuse_token) F_SchemaReader_take_name⟩
  have i_Column : Ic P w K mg base 1 ad.Column ["self", "name"] (sp_Column_init ad) := ⟨_, _, n_Column_init, B_Column_init, ok_Column_init (P := P) (w := w) (base := base) (T := T) F_Column_init⟩
  have i_Table : Ic P w K mg base 1 ad.Table ["self", "name", "columns"] (sp_Table_init ad) := ⟨_, _, n_Table_init, B_Table_init, ok_Table_init (P := P) (w := w) (base := base) (T := T) F_Table_init⟩
  have m_SchemaReader_take_new_name : Mc P w K mg base (L2.CX P w) 5 ad.SchemaReader "take_new_name" ["self", "earlier"] (sp_new_name ad K) := ⟨_, _, n_SchemaReader_take_new_name, B_SchemaReader_take_new_name, ok_take_new_name (P := P) (w := w) (base := base) (T := T) (m_SchemaReader_place_here := m_SchemaReader_place_here) (m_SchemaReader_take_name := m_SchemaReader_take_name) (x_FirstFault := x_FirstFault) F_SchemaReader_take_new_name⟩
  have m_SchemaReader_read_bound : Mc P w K mg base (L2.CX P w) 4 ad.SchemaReader "read_bound" ["self"] (sp_read_bound ad) := ⟨_, _, n_SchemaReader_read_bound, B_SchemaReader_read_bound, ok_read_bound (P := P) (w := w) (base := base) (T := T) (m_SchemaReader_sort_here := m_SchemaReader_sort_here) (m_SchemaReader_take_if := m_SchemaReader_take_if) (m_SchemaReader_take_any := m_SchemaReader_take_any) (m_SchemaReader_refuse_token := m_SchemaReader_refuse_token) F_SchemaReader_read_bound⟩
  have m_SchemaReader_read_range : Mc P w K mg base (L2.CX P w) 5 ad.SchemaReader "read_range" ["self", "column"] (sp_read_range ad) := ⟨_, _, n_SchemaReader_read_range, B_SchemaReader_read_range, ok_read_range (P := P) (w := w) (base := base) (T := T) (m_SchemaReader_take_if := m_SchemaReader_take_if) (m_SchemaReader_take := m_SchemaReader_take) (m_SchemaReader_place_here := m_SchemaReader_place_here) (m_SchemaReader_read_bound := m_SchemaReader_read_bound) (x_FirstFault := x_FirstFault) F_SchemaReader_read_range⟩
  have m_SchemaReader_read_reference : Mc P w K mg base (L2.CX P w) 5 ad.SchemaReader "read_reference" ["self", "column"] (sp_read_reference ad) := ⟨_, _, n_SchemaReader_read_reference, B_SchemaReader_read_reference, ok_read_reference (P := P) (w := w) (base := base) (T := T) (m_SchemaReader_take_if := take_if2 m_SchemaReader_take_if) (m_SchemaReader_take_name := m_SchemaReader_take_name) (m_SchemaReader_place_here := m_SchemaReader_place_here) (x_FirstFault := x_FirstFault) F_SchemaReader_read_reference⟩
  have m_SchemaReader_read_column : Mc P w K mg base (L2.CX P w) 6 ad.SchemaReader "read_column" ["self", "earlier"] (sp_read_column ad K) := ⟨_, _, n_SchemaReader_read_column, B_SchemaReader_read_column, ok_read_column (P := P) (w := w) (base := base) (T := T) (m_SchemaReader_take_new_name := m_SchemaReader_take_new_name) (m_SchemaReader_take_if := take_if2 m_SchemaReader_take_if) (m_SchemaReader_take := m_SchemaReader_take) (m_SchemaReader_read_range := m_SchemaReader_read_range) (m_SchemaReader_read_reference := m_SchemaReader_read_reference) (i_Column := i_Column) F_SchemaReader_read_column⟩
  have m_SchemaReader_read_table : Mc P w K mg base (L2.CX P w) 7 ad.SchemaReader "read_table" ["self"] (sp_read_table ad) := ⟨_, _, n_SchemaReader_read_table, B_SchemaReader_read_table, ok_read_table (P := P) (w := w) (base := base) (T := T) (m_SchemaReader_place_here := m_SchemaReader_place_here) (m_SchemaReader_take_new_name := m_SchemaReader_take_new_name) (m_SchemaReader_take_if := take_if2 m_SchemaReader_take_if) (m_SchemaReader_take := m_SchemaReader_take) (m_SchemaReader_read_column := m_SchemaReader_read_column) (x_FirstFault := x_FirstFault) (i_Table := i_Table) F_SchemaReader_read_table⟩
  have m_SchemaReader_find_targets : Mc P w K mg base (L2.CX P w) 3 ad.SchemaReader "find_targets" ["self"] (sp_find_targets ad) := ⟨_, _, n_SchemaReader_find_targets, B_SchemaReader_find_targets, ok_find_targets (P := P) (w := w) (base := base) (T := T) (x_FirstFault := x_FirstFault) F_SchemaReader_find_targets⟩
  have m_SchemaReader_read_all : Mc P w K mg base (L2.CX P w) 8 ad.SchemaReader "read_all" ["self"] (sp_read_all ad) := ⟨_, _, n_SchemaReader_read_all, B_SchemaReader_read_all, ok_read_all (P := P) (w := w) (base := base) (T := T) (m_SchemaReader_sort_here := m_SchemaReader_sort_here) (m_SchemaReader_read_table := m_SchemaReader_read_table) (m_SchemaReader_find_targets := m_SchemaReader_find_targets) F_SchemaReader_read_all⟩
  have i_SchemaReader : Ic P w K mg base 1 ad.SchemaReader ["self", "tokens"] (sp_SchemaReader_init ad) := ⟨_, _, n_SchemaReader_init, B_SchemaReader_init, ok_SchemaReader_init (P := P) (w := w) (base := base) (T := T) F_SchemaReader_init⟩
  have c_read_schema : Fc P w K mg base (L2.CX P w) 9 "read_schema" ["numbers"] (sp_read_schema ad) := ⟨_, _, n_read_schema, k_read_schema, B_read_schema, ok_read_schema (P := P) (w := w) (base := base) (T := T) (c_tokens_of := c_tokens_of) (c_characters_of := c_characters_of) (i_SchemaReader := i_SchemaReader) (m_SchemaReader_read_all := m_SchemaReader_read_all) F_read_schema⟩
  have c_number_kind : Fc P w K mg base CX0 1 "number_kind" ["column"] (sp_number_kind ad) := ⟨_, _, n_number_kind, k_number_kind, B_number_kind, ok_number_kind (P := P) (w := w) (base := base) (T := T) F_number_kind⟩
  have c_reference_kind : Fc P w K mg base CX0 1 "reference_kind" ["schema", "column"] (sp_reference_kind ad) := ⟨_, _, n_reference_kind, k_reference_kind, B_reference_kind, ok_reference_kind (P := P) (w := w) (base := base) (T := T) F_reference_kind⟩
  have c_column_line : Fc P w K mg base CX0 2 "column_line" ["schema", "column"] (sp_column_line ad) := ⟨_, _, n_column_line, k_column_line, B_column_line, ok_column_line (P := P) (w := w) (base := base) (T := T) (c_number_kind := c_number_kind) (c_reference_kind := c_reference_kind) F_column_line⟩
  have c_schema_text : Fc P w K mg base CX0 3 "schema_text" ["schema"] (sp_schema_text ad) := ⟨_, _, n_schema_text, k_schema_text, B_schema_text, ok_schema_text (P := P) (w := w) (base := base) (T := T) (c_column_line := c_column_line) F_schema_text⟩
  have c_is_row_count : Fc P w K mg base CX0 1 "is_row_count" ["number"] sp_is_row_count := ⟨_, _, n_is_row_count, k_is_row_count, B_is_row_count, ok_is_row_count (P := P) (w := w) (base := base) (T := T) F_is_row_count⟩
  have c_are_values : Fc P w K mg base CX0 1 "are_values" ["row"] sp_are_values := ⟨_, _, n_are_values, k_are_values, B_are_values, ok_are_values (P := P) (w := w) (base := base) (T := T) F_are_values⟩
  have c_read_rows : Fc P w K mg base CX0 2 "read_rows" ["numbers", "width"] sp_read_rows := ⟨_, _, n_read_rows, k_read_rows, B_read_rows, ok_read_rows (P := P) (w := w) (base := base) (T := T) (c_are_values := c_are_values) F_read_rows⟩
  have c_read_tables : Fc P w K mg base CX0 3 "read_tables" ["schema", "numbers"] (sp_read_tables ad) := ⟨_, _, n_read_tables, k_read_tables, B_read_tables, ok_read_tables (P := P) (w := w) (base := base) (T := T) (c_is_row_count := c_is_row_count) (c_read_rows := c_read_rows) F_read_tables⟩
  have c_value_broken : Fc P w K mg base CX0 1 "value_broken" ["column", "value", "others", "tables"] (sp_value_broken ad) := ⟨_, _, n_value_broken, k_value_broken, B_value_broken, ok_value_broken (P := P) (w := w) (base := base) (T := T) F_value_broken⟩
  have c_row_broken : Fc P w K mg base CX0 2 "row_broken" ["schema", "tables", "number", "row_id"] (sp_row_broken ad) := ⟨_, _, n_row_broken, k_row_broken, B_row_broken, ok_row_broken (P := P) (w := w) (base := base) (T := T) (c_value_broken := c_value_broken) F_row_broken⟩
  have c_first_broken : Fc P w K mg base CX0 3 "first_broken" ["schema", "tables"] (sp_first_broken ad) := ⟨_, _, n_first_broken, k_first_broken, B_first_broken, ok_first_broken (P := P) (w := w) (base := base) (T := T) (c_row_broken := c_row_broken) F_first_broken⟩
  have c_change_of : Fc P w K mg base CX0 1 "change_of" ["row_id", "began", "own"] sp_change_of := ⟨_, _, n_change_of, k_change_of, B_change_of, ok_change_of (P := P) (w := w) (base := base) (T := T) F_change_of⟩
  have c_added_clashes : Fc P w K mg base CX0 1 "added_clashes" ["store", "own"] sp_added_clashes := ⟨_, _, n_added_clashes, k_added_clashes, B_added_clashes, ok_added_clashes (P := P) (w := w) (base := base) (T := T) F_added_clashes⟩
  have c_altered_clashes : Fc P w K mg base CX0 1 "altered_clashes" ["began", "store", "own"] sp_altered_clashes := ⟨_, _, n_altered_clashes, k_altered_clashes, B_altered_clashes, ok_altered_clashes (P := P) (w := w) (base := base) (T := T) F_altered_clashes⟩
  have c_row_clashes : Fc P w K mg base CX0 2 "row_clashes" ["began", "store", "own", "by_fields"] sp_row_clashes := ⟨_, _, n_row_clashes, k_row_clashes, B_row_clashes, ok_row_clashes (P := P) (w := w) (base := base) (T := T) (c_added_clashes := c_added_clashes) (c_altered_clashes := c_altered_clashes) F_row_clashes⟩
  have c_find_clashes : Fc P w K mg base CX0 3 "find_clashes" ["began", "store", "own", "by_fields"] sp_find_clashes := ⟨_, _, n_find_clashes, k_find_clashes, B_find_clashes, ok_find_clashes (P := P) (w := w) (base := base) (T := T) (c_row_clashes := c_row_clashes) F_find_clashes⟩
  have c_changed_rows : Fc P w K mg base CX0 2 "changed_rows" ["began", "own"] sp_changed_rows := ⟨_, _, n_changed_rows, k_changed_rows, B_changed_rows, ok_changed_rows (P := P) (w := w) (base := base) (T := T) (c_change_of := c_change_of) F_changed_rows⟩
  have c_merged_one : Fc P w K mg base CX0 1 "merged_one" ["began", "store", "own", "choice"] sp_merged_one := ⟨_, _, n_merged_one, k_merged_one, B_merged_one, ok_merged_one (P := P) (w := w) (base := base) (T := T) F_merged_one⟩
  have c_merged_fields : Fc P w K mg base CX0 2 "merged_fields" ["began", "store", "own", "choices"] sp_merged_fields := ⟨_, _, n_merged_fields, k_merged_fields, B_merged_fields, ok_merged_fields (P := P) (w := w) (base := base) (T := T) (c_merged_one := c_merged_one) F_merged_fields⟩
  have c_merged_row : Fc P w K mg base CX0 3 "merged_row" ["began", "store", "own", "by_fields", "choices"] sp_merged_row := ⟨_, _, n_merged_row, k_merged_row, B_merged_row, ok_merged_row (P := P) (w := w) (base := base) (T := T) (c_merged_fields := c_merged_fields) (c_merged_one := c_merged_one) F_merged_row⟩
  have c_merged_tables : Fc P w K mg base CX0 4 "merged_tables" ["began", "store", "own", "by_fields", "row_choices"] sp_merged_tables := ⟨_, _, n_merged_tables, k_merged_tables, B_merged_tables, ok_merged_tables (P := P) (w := w) (base := base) (T := T) (c_merged_row := c_merged_row) F_merged_tables⟩
  have c_choices_by_row : Fc P w K mg base CX0 1 "choices_by_row" ["clashes", "choices"] sp_choices_by_row := ⟨_, _, n_choices_by_row, k_choices_by_row, B_choices_by_row, ok_choices_by_row (P := P) (w := w) (base := base) (T := T) F_choices_by_row⟩
  have c_numbers_of : Fc P w K mg base CX0 1 "numbers_of" ["tables"] sp_numbers_of := ⟨_, _, n_numbers_of, k_numbers_of, B_numbers_of, ok_numbers_of (P := P) (w := w) (base := base) (T := T) F_numbers_of⟩
  have c_first_unfit : Fc P w K mg base CX0 4 "first_unfit" ["schema", "tables"] (sp_first_unfit ad) := ⟨_, _, n_first_unfit, k_first_unfit, B_first_unfit, ok_first_unfit (P := P) (w := w) (base := base) (T := T) (c_first_broken := c_first_broken) F_first_unfit⟩
  have c_counted : Fc P w K mg base CX0 1 "counted" ["found"] sp_counted := ⟨_, _, n_counted, k_counted, B_counted, ok_counted (P := P) (w := w) (base := base) (T := T) F_counted⟩
  have m_Held_changed_by : Mc P w K mg base CX0 3 ad.Held "changed_by" ["self", "session"] (sp_changed_by ad) := ⟨_, _, n_Held_changed_by, B_Held_changed_by, ok_changed_by (P := P) (w := w) (base := base) (T := T) (c_changed_rows := c_changed_rows) F_Held_changed_by⟩
  have m_Held_clashes_of : Mc P w K mg base CX0 4 ad.Held "clashes_of" ["self", "session", "mode"] (sp_clashes_of ad) := ⟨_, _, n_Held_clashes_of, B_Held_clashes_of, ok_clashes_of (P := P) (w := w) (base := base) (T := T) (c_find_clashes := c_find_clashes) F_Held_clashes_of⟩
  have m_Held_changed : Mc P w K mg base CX0 4 ad.Held "changed" ["self", "session"] (sp_changed ad) := ⟨_, _, n_Held_changed, B_Held_changed, ok_changed (P := P) (w := w) (base := base) (T := T) (c_counted := c_counted) (m_Held_changed_by := m_Held_changed_by) F_Held_changed⟩
  have m_Held_clashes : Mc P w K mg base CX0 5 ad.Held "clashes" ["self", "session", "mode"] (sp_clashes ad) := ⟨_, _, n_Held_clashes, B_Held_clashes, ok_clashes (P := P) (w := w) (base := base) (T := T) (c_counted := c_counted) (m_Held_clashes_of := m_Held_clashes_of) F_Held_clashes⟩
  have m_Held_begin_with : Mc P w K mg base CX0 1 ad.Held "begin_with" ["self", "tables"] (sp_begin_with ad) := ⟨_, _, n_Held_begin_with, B_Held_begin_with, ok_begin_with (P := P) (w := w) (base := base) (T := T) F_Held_begin_with⟩
  have i_Held : Ic P w K mg base 2 ad.Held ["self"] (sp_Held_init ad) := ⟨_, _, n_Held_init, B_Held_init, ok_Held_init (P := P) (w := w) (base := base) (T := T) (m_Held_begin_with := m_Held_begin_with) F_Held_init⟩
  have m_Held_judge_tables : Mc P w K mg base CX0 4 ad.Held "judge_tables" ["self", "tables"] (sp_judge_tables ad) := ⟨_, _, n_Held_judge_tables, B_Held_judge_tables, ok_judge_tables (P := P) (w := w) (base := base) (T := T) (c_first_broken := c_first_broken) F_Held_judge_tables⟩
  have m_Held_fill : Mc P w K mg base CX0 5 ad.Held "fill" ["self", "numbers"] (sp_fill ad) := ⟨_, _, n_Held_fill, B_Held_fill, ok_fill (P := P) (w := w) (base := base) (T := T) (c_read_tables := c_read_tables) (m_Held_judge_tables := m_Held_judge_tables) (m_Held_begin_with := m_Held_begin_with) F_Held_fill⟩
  have m_Held_set_own : Mc P w K mg base CX0 5 ad.Held "set_own" ["self", "session", "numbers"] (sp_set_own ad) := ⟨_, _, n_Held_set_own, B_Held_set_own, ok_set_own (P := P) (w := w) (base := base) (T := T) (c_read_tables := c_read_tables) (m_Held_judge_tables := m_Held_judge_tables) F_Held_set_own⟩
  have m_Held_load : Mc P w K mg base CX0 10 ad.Held "load" ["self", "numbers"] (sp_load ad) := ⟨_, _, n_Held_load, B_Held_load, ok_load (P := P) (w := w) (base := base) (T := T) (XF := XF_) (xm := xm_) (c_read_schema := c_read_schema) (m_Held_begin_with := m_Held_begin_with) F_Held_load⟩
  have m_Held_written : Mc P w K mg base CX0 4 ad.Held "written" ["self"] (sp_written ad) := ⟨_, _, n_Held_written, B_Held_written, ok_written (P := P) (w := w) (base := base) (T := T) (c_schema_text := c_schema_text) F_Held_written⟩
  have m_Held_tables : Mc P w K mg base CX0 2 ad.Held "tables" ["self", "side"] (sp_tables ad) := ⟨_, _, n_Held_tables, B_Held_tables, ok_tables (P := P) (w := w) (base := base) (T := T) (c_numbers_of := c_numbers_of) F_Held_tables⟩
  have m_Held_size : Mc P w K mg base CX0 4 ad.Held "size" ["self"] (sp_size ad) := ⟨_, _, n_Held_size, B_Held_size, ok_size (P := P) (w := w) (base := base) (T := T) (m_Held_changed_by := m_Held_changed_by) F_Held_size⟩
  have m_Held_merge : Mc P w K mg base CX0 5 ad.Held "merge" ["self", "session", "mode", "choices"] (sp_merge ad) := ⟨_, _, n_Held_merge, B_Held_merge, ok_merge (P := P) (w := w) (base := base) (T := T) (m_Held_clashes_of := m_Held_clashes_of) (c_merged_tables := c_merged_tables) (c_choices_by_row := c_choices_by_row) (c_first_unfit := c_first_unfit) F_Held_merge⟩
  have m_Held_merged : Mc P w K mg base CX0 6 ad.Held "merged" ["self", "session", "mode", "choices"] (sp_merged ad) := ⟨_, _, n_Held_merged, B_Held_merged, ok_merged (P := P) (w := w) (base := base) (T := T) (m_Held_merge := m_Held_merge) (c_numbers_of := c_numbers_of) F_Held_merged⟩
  have m_Held_commit : Mc P w K mg base CX0 6 ad.Held "commit" ["self", "session", "mode", "choices"] (sp_commit ad) := ⟨_, _, n_Held_commit, B_Held_commit, ok_commit (P := P) (w := w) (base := base) (T := T) (m_Held_merge := m_Held_merge) (c_changed_rows := c_changed_rows) F_Held_commit⟩
  have m_Held_refresh : Mc P w K mg base CX0 6 ad.Held "refresh" ["self", "session", "mode", "choices"] (sp_refresh ad) := ⟨_, _, n_Held_refresh, B_Held_refresh, ok_refresh (P := P) (w := w) (base := base) (T := T) (m_Held_merge := m_Held_merge) (c_changed_rows := c_changed_rows) F_Held_refresh⟩
  have m_Held_twin : Mc P w K mg base CX0 4 ad.Held "twin" ["self"] (sp_twin ad) := ⟨_, _, n_Held_twin, B_Held_twin, ok_twin (P := P) (w := w) (base := base) (T := T) (i_Held := i_Held) F_Held_twin⟩
  have m_Held_store_behind : Mc P w K mg base CX0 7 ad.Held "store_behind" ["self", "order", "mode"] (sp_store_behind ad) := ⟨_, _, n_Held_store_behind, B_Held_store_behind, ok_store_behind (P := P) (w := w) (base := base) (T := T) (m_Held_twin := m_Held_twin) (m_Held_commit := m_Held_commit) F_Held_store_behind⟩
  have m_Held_orders : Mc P w K mg base CX0 8 ad.Held "orders" ["self", "mode"] (sp_orders ad) := ⟨_, _, n_Held_orders, B_Held_orders, ok_orders (P := P) (w := w) (base := base) (T := T) (m_Held_store_behind := m_Held_store_behind) F_Held_orders⟩
  have c_answer_call : Fc P w K mg base CX0 11 "answer_call" ["held", "call", "singles", "listed"] (sp_answer_call ad) := ⟨_, _, n_answer_call, k_answer_call, B_answer_call, ok_answer_call (P := P) (w := w) (base := base) (T := T) (m_Held_load := m_Held_load) (m_Held_written := m_Held_written) (m_Held_fill := m_Held_fill) (m_Held_set_own := m_Held_set_own) (m_Held_changed := m_Held_changed) (m_Held_clashes := m_Held_clashes) (m_Held_merged := m_Held_merged) (m_Held_commit := m_Held_commit) (m_Held_refresh := m_Held_refresh) (m_Held_tables := m_Held_tables) (m_Held_orders := m_Held_orders) (m_Held_size := m_Held_size) F_answer_call⟩
  have c_read_calls : Fc P w K mg base CX0 1 "read_calls" ["calls"] (sp_read_calls K) := ⟨_, _, n_read_calls, k_read_calls, B_read_calls, ok_read_calls (P := P) (w := w) (base := base) (T := T) F_read_calls⟩
  exact ok_answers (P := P) (w := w) (base := base) (T := T) (i_Held := i_Held) (c_read_calls := c_read_calls) (c_answer_call := c_answer_call) F_answers
theorem all_mk {aTable aColumn aFirstFault aSchemaReader aHeld aSINGLE_NUMBERS aHAS_LIST aNO_NAMES aSESSIONS aMODES aCHOICES fa : Addr} (KX : K.In h) (G : h.Ns mainGlobals mg) (hfa : mg "answers" = some (.ref fa))
    (a_Table : PySem.W.nsIn K mainGlobals "Table" = some (some (.ref aTable)))
    (a_Column : PySem.W.nsIn K mainGlobals "Column" = some (some (.ref aColumn)))
    (a_FirstFault : PySem.W.nsIn K mainGlobals "FirstFault" = some (some (.ref aFirstFault)))
    (a_SchemaReader : PySem.W.nsIn K mainGlobals "SchemaReader" = some (some (.ref aSchemaReader)))
    (a_Held : PySem.W.nsIn K mainGlobals "Held" = some (some (.ref aHeld)))
    (a_SINGLE_NUMBERS : PySem.W.nsIn K mainGlobals "SINGLE_NUMBERS" = some (some (.ref aSINGLE_NUMBERS)))
    (a_HAS_LIST : PySem.W.nsIn K mainGlobals "HAS_LIST" = some (some (.ref aHAS_LIST)))
    (a_NO_NAMES : PySem.W.nsIn K mainGlobals "NO_NAMES" = some (some (.ref aNO_NAMES)))
    (a_SESSIONS : PySem.W.nsIn K mainGlobals "SESSIONS" = some (some (.ref aSESSIONS)))
    (a_MODES : PySem.W.nsIn K mainGlobals "MODES" = some (some (.ref aMODES)))
    (a_CHOICES : PySem.W.nsIn K mainGlobals "CHOICES" = some (some (.ref aCHOICES)))
    (k_LOAD : CF K "LOAD" (.int 0))
    (k_WRITTEN : CF K "WRITTEN" (.int 1))
    (k_FILL : CF K "FILL" (.int 2))
    (k_SET : CF K "SET" (.int 3))
    (k_CHANGED : CF K "CHANGED" (.int 4))
    (k_CLASHES : CF K "CLASHES" (.int 5))
    (k_MERGED : CF K "MERGED" (.int 6))
    (k_COMMIT : CF K "COMMIT" (.int 7))
    (k_REFRESH : CF K "REFRESH" (.int 8))
    (k_TABLES : CF K "TABLES" (.int 9))
    (k_ORDERS : CF K "ORDERS" (.int 10))
    (t_SINGLE_NUMBERS : TU K aSINGLE_NUMBERS [V.int 0, V.int 0, V.int 0, V.int 1, V.int 1, V.int 2, V.int 2, V.int 2, V.int 2, V.int 1, V.int 1, V.int 0])
    (t_HAS_LIST : TU K aHAS_LIST [V.bl true, V.bl false, V.bl true, V.bl true, V.bl false, V.bl false, V.bl true, V.bl true, V.bl true, V.bl false, V.bl false, V.bl false])
    (k_ADDED : CF K "ADDED" (.int 0))
    (k_ALTERED : CF K "ALTERED" (.int 1))
    (k_REMOVED : CF K "REMOVED" (.int 2))
    (k_BOTH_ALTERED : CF K "BOTH_ALTERED" (.int 0))
    (k_STORE_REMOVED : CF K "STORE_REMOVED" (.int 1))
    (k_SESSION_REMOVED : CF K "SESSION_REMOVED" (.int 2))
    (k_BOTH_ADDED : CF K "BOTH_ADDED" (.int 3))
    (k_WHOLE_ROW : CF K "WHOLE_ROW" (.int 4))
    (k_OF_THE_SESSION : CF K "OF_THE_SESSION" (.int 1))
    (k_FARTHEST : CF K "FARTHEST" (.int 1000000))
    (k_LETTERS : CF K "LETTERS" (.str (T x_LETTERS)))
    (k_DIGITS : CF K "DIGITS" (.str (T x_DIGITS)))
    (k_WORD_SIGNS : CF K "WORD_SIGNS" (.str (T x_WORD_SIGNS)))
    (k_SIGNS : CF K "SIGNS" (.str (T x_SIGNS)))
    (k_BLANKS : CF K "BLANKS" (.str (T x_BLANKS)))
    (k_KNOWN_SIGNS : CF K "KNOWN_SIGNS" (.str (T x_KNOWN_SIGNS)))
    (k_UNKNOWN_SIGN : CF K "UNKNOWN_SIGN" (.str (T x_UNKNOWN_SIGN)))
    (k_LONGEST_WORD : CF K "LONGEST_WORD" (.int 12))
    (k_MOST_DIGITS : CF K "MOST_DIGITS" (.int 7))
    (k_GREATEST_NUMBER : CF K "GREATEST_NUMBER" (.int 1000000))
    (k_WORD : CF K "WORD" (.str (T x_WORD)))
    (k_NUMBER : CF K "NUMBER" (.str (T x_NUMBER)))
    (k_SIGN : CF K "SIGN" (.str (T x_SIGN)))
    (k_END : CF K "END" (.str (T x_END)))
    (k_STRAY : CF K "STRAY" (.str (T x_STRAY)))
    (k_MALFORMED : CF K "MALFORMED" (.str (T x_MALFORMED)))
    (k_MOST_TABLES : CF K "MOST_TABLES" (.int 4))
    (k_MOST_COLUMNS : CF K "MOST_COLUMNS" (.int 4))
    (t_NO_NAMES : TU K aNO_NAMES [V.str (T [116, 97, 98, 108, 101]), V.str (T [110, 117, 109, 98, 101, 114]), V.str (T [102, 114, 111, 109]), V.str (T [116, 111]), V.str (T [114, 101, 102]), V.str (T [110, 111, 110, 101]), V.str (T [99, 97, 115, 99, 97, 100, 101]), V.str (T [99, 108, 101, 97, 114]), V.str (T [117, 110, 105, 113, 117, 101])])
    (k_NO_TOKEN : CF K "NO_TOKEN" (.int 1))
    (k_NOT_AS_TOLD : CF K "NOT_AS_TOLD" (.int 2))
    (k_CANNOT_STAND : CF K "CANNOT_STAND" (.int 3))
    (k_ENDS_EARLY : CF K "ENDS_EARLY" (.int 4))
    (k_TOO_MANY : CF K "TOO_MANY" (.int 5))
    (k_NAMED_TWICE : CF K "NAMED_TWICE" (.int 6))
    (k_NO_SUCH_TABLE : CF K "NO_SUCH_TABLE" (.int 7))
    (k_AT_ODDS : CF K "AT_ODDS" (.int 8))
    (k_MOST_ROWS : CF K "MOST_ROWS" (.int 8))
    (k_GREATEST_ID : CF K "GREATEST_ID" (.int 99))
    (k_OUT_OF_RANGE : CF K "OUT_OF_RANGE" (.int 2))
    (k_NO_SUCH_ROW : CF K "NO_SUCH_ROW" (.int 3))
    (k_NOT_UNIQUE : CF K "NOT_UNIQUE" (.int 4))
    (k_TOO_MANY_ROWS : CF K "TOO_MANY_ROWS" (.int 5))
    (k_NOTHING_BROKEN : CF K "NOTHING_BROKEN" (.int 0))
    (k_LONGEST_TEXT : CF K "LONGEST_TEXT" (.int 4096))
    (k_GREATEST_BYTE : CF K "GREATEST_BYTE" (.int 255))
    (k_NO_BYTE : CF K "NO_BYTE" (.int (-1)))
    (k_TOO_LONG : CF K "TOO_LONG" (.int (-2)))
    (k_NO_SESSION : CF K "NO_SESSION" (.int (-3)))
    (k_NOT_ROWS : CF K "NOT_ROWS" (.int (-4)))
    (k_NO_MODE : CF K "NO_MODE" (.int (-8)))
    (k_NO_CHOICE : CF K "NO_CHOICE" (.int (-12)))
    (k_OTHER_COUNT : CF K "OTHER_COUNT" (.int 1))
    (k_NOT_GOOD : CF K "NOT_GOOD" (.int 2))
    (k_SAME_STORE : CF K "SAME_STORE" (.int 1))
    (k_UNLIKE_STORES : CF K "UNLIKE_STORES" (.int 0))
    (k_NOT_BOTH_ORDERS : CF K "NOT_BOTH_ORDERS" (.int 2))
    (t_SESSIONS : TU K aSESSIONS [V.int 0, V.int 1])
    (k_STORE : CF K "STORE" (.int 2))
    (t_MODES : TU K aMODES [V.int 0, V.int 1])
    (k_BY_FIELDS : CF K "BY_FIELDS" (.int 1))
    (t_CHOICES : TU K aCHOICES [V.int 0, V.int 1])
    (b_len : PySem.W.nsIn K mainGlobals "len" = some none)
    (b_range : PySem.W.nsIn K mainGlobals "range" = some none)
    (b_enumerate : PySem.W.nsIn K mainGlobals "enumerate" = some none)
    (b_sorted : PySem.W.nsIn K mainGlobals "sorted" = some none)
    (b_set : PySem.W.nsIn K mainGlobals "set" = some none)
    (b_sum : PySem.W.nsIn K mainGlobals "sum" = some none)
    (b_any : PySem.W.nsIn K mainGlobals "any" = some none)
    (b_all : PySem.W.nsIn K mainGlobals "all" = some none)
    (b_abs : PySem.W.nsIn K mainGlobals "abs" = some none)
    (b_ord : PySem.W.nsIn K mainGlobals "ord" = some none)
    (b_int : PySem.W.nsIn K mainGlobals "int" = some none)
    (b_str : PySem.W.nsIn K mainGlobals "str" = some none)
    (b_tuple : PySem.W.nsIn K mainGlobals "tuple" = some none)
    (b_Exception : PySem.W.nsIn K mainGlobals "Exception" = some none)
    (b_zip : PySem.W.nsIn K mainGlobals "zip" = some none)
    (b_list : PySem.W.nsIn K mainGlobals "list" = some none)
    (cl_Table : Cls K aTable)
    (n_Table_name : PySem.W.findIn K (.ref aTable) "name" = some none)
    (n_Table_columns : PySem.W.findIn K (.ref aTable) "columns" = some none)
    (cl_Column : Cls K aColumn)
    (n_Column_name : PySem.W.findIn K (.ref aColumn) "name" = some none)
    (n_Column_low : PySem.W.findIn K (.ref aColumn) "low" = some none)
    (n_Column_high : PySem.W.findIn K (.ref aColumn) "high" = some none)
    (n_Column_target : PySem.W.findIn K (.ref aColumn) "target" = some none)
    (n_Column_allows_none : PySem.W.findIn K (.ref aColumn) "allows_none" = some none)
    (n_Column_removal : PySem.W.findIn K (.ref aColumn) "removal" = some none)
    (n_Column_unique : PySem.W.findIn K (.ref aColumn) "unique" = some none)
    (e_FirstFault : EcC K aFirstFault)
    (xf_FirstFault : XfC K aFirstFault)
    (ic_FirstFault : PySem.W.isClsIn K aFirstFault = true)
    (ss_FirstFault : PySem.W.subIn K (.ref aFirstFault) (.ref aFirstFault) = some true)
    (n_FirstFault_kind : PySem.W.findIn K (.ref aFirstFault) "kind" = some none)
    (n_FirstFault_place : PySem.W.findIn K (.ref aFirstFault) "place" = some none)
    (cl_SchemaReader : Cls K aSchemaReader)
    (n_SchemaReader_tokens : PySem.W.findIn K (.ref aSchemaReader) "tokens" = some none)
    (n_SchemaReader_position : PySem.W.findIn K (.ref aSchemaReader) "position" = some none)
    (n_SchemaReader_schema : PySem.W.findIn K (.ref aSchemaReader) "schema" = some none)
    (n_SchemaReader_references : PySem.W.findIn K (.ref aSchemaReader) "references" = some none)
    (cl_Held : Cls K aHeld)
    (n_Held_schema : PySem.W.findIn K (.ref aHeld) "schema" = some none)
    (n_Held_commits : PySem.W.findIn K (.ref aHeld) "commits" = some none)
    (n_Held_store : PySem.W.findIn K (.ref aHeld) "store" = some none)
    (n_Held_began : PySem.W.findIn K (.ref aHeld) "began" = some none)
    (n_Held_own : PySem.W.findIn K (.ref aHeld) "own" = some none)
    (g_past_run : GF K "past_run" s_past_run)
    (g_past_remark : GF K "past_remark" s_past_remark)
    (g_past_blanks : GF K "past_blanks" s_past_blanks)
    (g_token_end : GF K "token_end" s_token_end)
    (g_is_number : GF K "is_number" s_is_number)
    (g_sort_of : GF K "sort_of" s_sort_of)
    (g_tokens_of : GF K "tokens_of" s_tokens_of)
    (g_characters_of : GF K "characters_of" s_characters_of)
    (g_FirstFault_init : XF K aFirstFault "FirstFault.__init__" s_FirstFault_init)
    (g_SchemaReader_sort_here : MF K aSchemaReader "sort_here" "SchemaReader.sort_here" s_SchemaReader_sort_here)
    (g_SchemaReader_token_here : MF K aSchemaReader "token_here" "SchemaReader.token_here" s_SchemaReader_token_here)
    (g_SchemaReader_place_here : MF K aSchemaReader "place_here" "SchemaReader.place_here" s_SchemaReader_place_here)
    (g_fault_of : GF K "fault_of" s_fault_of)
    (g_SchemaReader_refuse_token : MF K aSchemaReader "refuse_token" "SchemaReader.refuse_token" s_SchemaReader_refuse_token)
    (g_SchemaReader_take_any : MF K aSchemaReader "take_any" "SchemaReader.take_any" s_SchemaReader_take_any)
    (g_SchemaReader_take_if : MF K aSchemaReader "take_if" "SchemaReader.take_if" s_SchemaReader_take_if)
    (g_SchemaReader_take : MF K aSchemaReader "take" "SchemaReader.take" s_SchemaReader_take)
    (g_SchemaReader_take_name : MF K aSchemaReader "take_name" "SchemaReader.take_name" s_SchemaReader_take_name)
    (g_Column_init : IF K aColumn "Column.__init__" s_Column_init)
    (g_Table_init : IF K aTable "Table.__init__" s_Table_init)
    (g_SchemaReader_take_new_name : MF K aSchemaReader "take_new_name" "SchemaReader.take_new_name" s_SchemaReader_take_new_name)
    (g_SchemaReader_read_bound : MF K aSchemaReader "read_bound" "SchemaReader.read_bound" s_SchemaReader_read_bound)
    (g_SchemaReader_read_range : MF K aSchemaReader "read_range" "SchemaReader.read_range" s_SchemaReader_read_range)
    (g_SchemaReader_read_reference : MF K aSchemaReader "read_reference" "SchemaReader.read_reference" s_SchemaReader_read_reference)
    (g_SchemaReader_read_column : MF K aSchemaReader "read_column" "SchemaReader.read_column" s_SchemaReader_read_column)
    (g_SchemaReader_read_table : MF K aSchemaReader "read_table" "SchemaReader.read_table" s_SchemaReader_read_table)
    (g_SchemaReader_find_targets : MF K aSchemaReader "find_targets" "SchemaReader.find_targets" s_SchemaReader_find_targets)
    (g_SchemaReader_read_all : MF K aSchemaReader "read_all" "SchemaReader.read_all" s_SchemaReader_read_all)
    (g_SchemaReader_init : IF K aSchemaReader "SchemaReader.__init__" s_SchemaReader_init)
    (g_read_schema : GF K "read_schema" s_read_schema)
    (g_number_kind : GF K "number_kind" s_number_kind)
    (g_reference_kind : GF K "reference_kind" s_reference_kind)
    (g_column_line : GF K "column_line" s_column_line)
    (g_schema_text : GF K "schema_text" s_schema_text)
    (g_is_row_count : GF K "is_row_count" s_is_row_count)
    (g_are_values : GF K "are_values" s_are_values)
    (g_read_rows : GF K "read_rows" s_read_rows)
    (g_read_tables : GF K "read_tables" s_read_tables)
    (g_value_broken : GF K "value_broken" s_value_broken)
    (g_row_broken : GF K "row_broken" s_row_broken)
    (g_first_broken : GF K "first_broken" s_first_broken)
    (g_change_of : GF K "change_of" s_change_of)
    (g_added_clashes : GF K "added_clashes" s_added_clashes)
    (g_altered_clashes : GF K "altered_clashes" s_altered_clashes)
    (g_row_clashes : GF K "row_clashes" s_row_clashes)
    (g_find_clashes : GF K "find_clashes" s_find_clashes)
    (g_changed_rows : GF K "changed_rows" s_changed_rows)
    (g_merged_one : GF K "merged_one" s_merged_one)
    (g_merged_fields : GF K "merged_fields" s_merged_fields)
    (g_merged_row : GF K "merged_row" s_merged_row)
    (g_merged_tables : GF K "merged_tables" s_merged_tables)
    (g_choices_by_row : GF K "choices_by_row" s_choices_by_row)
    (g_numbers_of : GF K "numbers_of" s_numbers_of)
    (g_first_unfit : GF K "first_unfit" s_first_unfit)
    (g_counted : GF K "counted" s_counted)
    (g_Held_changed_by : MF K aHeld "changed_by" "Held.changed_by" s_Held_changed_by)
    (g_Held_clashes_of : MF K aHeld "clashes_of" "Held.clashes_of" s_Held_clashes_of)
    (g_Held_changed : MF K aHeld "changed" "Held.changed" s_Held_changed)
    (g_Held_clashes : MF K aHeld "clashes" "Held.clashes" s_Held_clashes)
    (g_Held_begin_with : MF K aHeld "begin_with" "Held.begin_with" s_Held_begin_with)
    (g_Held_init : IF K aHeld "Held.__init__" s_Held_init)
    (g_Held_judge_tables : MF K aHeld "judge_tables" "Held.judge_tables" s_Held_judge_tables)
    (g_Held_fill : MF K aHeld "fill" "Held.fill" s_Held_fill)
    (g_Held_set_own : MF K aHeld "set_own" "Held.set_own" s_Held_set_own)
    (g_Held_load : MF K aHeld "load" "Held.load" s_Held_load)
    (g_Held_written : MF K aHeld "written" "Held.written" s_Held_written)
    (g_Held_tables : MF K aHeld "tables" "Held.tables" s_Held_tables)
    (g_Held_size : MF K aHeld "size" "Held.size" s_Held_size)
    (g_Held_merge : MF K aHeld "merge" "Held.merge" s_Held_merge)
    (g_Held_merged : MF K aHeld "merged" "Held.merged" s_Held_merged)
    (g_Held_commit : MF K aHeld "commit" "Held.commit" s_Held_commit)
    (g_Held_refresh : MF K aHeld "refresh" "Held.refresh" s_Held_refresh)
    (g_Held_twin : MF K aHeld "twin" "Held.twin" s_Held_twin)
    (g_Held_store_behind : MF K aHeld "store_behind" "Held.store_behind" s_Held_store_behind)
    (g_Held_orders : MF K aHeld "orders" "Held.orders" s_Held_orders)
    (g_answer_call : GF K "answer_call" s_answer_call)
    (g_read_calls : GF K "read_calls" s_read_calls)
    (g_answers : GF K "answers" s_answers) :
    ∃ fd : FuncData, (∀ (s : Shared) (us : List Value), us.length = (["calls"] : List Str).length → BindsTo s fd ⟨us, []⟩ ((["calls"] : List Str).zip us)) ∧ ∀ base : Heap, K.In base → base.Ns mainGlobals mg → FnOk P w K mg base CX0 12 fa fd ["calls"] (sp_answers K) := by
  have T := tp_mk KX G a_Table a_Column a_FirstFault a_SchemaReader a_Held a_SINGLE_NUMBERS a_HAS_LIST a_NO_NAMES a_SESSIONS a_MODES a_CHOICES k_LOAD k_WRITTEN k_FILL k_SET k_CHANGED k_CLASHES k_MERGED k_COMMIT k_REFRESH k_TABLES k_ORDERS t_SINGLE_NUMBERS t_HAS_LIST k_ADDED k_ALTERED k_REMOVED k_BOTH_ALTERED k_STORE_REMOVED k_SESSION_REMOVED k_BOTH_ADDED k_WHOLE_ROW k_OF_THE_SESSION k_FARTHEST k_LETTERS k_DIGITS k_WORD_SIGNS k_SIGNS k_BLANKS k_KNOWN_SIGNS k_UNKNOWN_SIGN k_LONGEST_WORD k_MOST_DIGITS k_GREATEST_NUMBER k_WORD k_NUMBER k_SIGN k_END k_STRAY k_MALFORMED k_MOST_TABLES k_MOST_COLUMNS t_NO_NAMES k_NO_TOKEN k_NOT_AS_TOLD k_CANNOT_STAND k_ENDS_EARLY k_TOO_MANY k_NAMED_TWICE k_NO_SUCH_TABLE k_AT_ODDS k_MOST_ROWS k_GREATEST_ID k_OUT_OF_RANGE k_NO_SUCH_ROW k_NOT_UNIQUE k_TOO_MANY_ROWS k_NOTHING_BROKEN k_LONGEST_TEXT k_GREATEST_BYTE k_NO_BYTE k_TOO_LONG k_NO_SESSION k_NOT_ROWS k_NO_MODE k_NO_CHOICE k_OTHER_COUNT k_NOT_GOOD k_SAME_STORE k_UNLIKE_STORES k_NOT_BOTH_ORDERS t_SESSIONS k_STORE t_MODES k_BY_FIELDS t_CHOICES b_len b_range b_enumerate b_sorted b_set b_sum b_any b_all b_abs b_ord b_int b_str b_tuple b_Exception b_zip b_list cl_Table n_Table_name n_Table_columns cl_Column n_Column_name n_Column_low n_Column_high n_Column_target n_Column_allows_none n_Column_removal n_Column_unique e_FirstFault xf_FirstFault ic_FirstFault ss_FirstFault n_FirstFault_kind n_FirstFault_place cl_SchemaReader n_SchemaReader_tokens n_SchemaReader_position n_SchemaReader_schema n_SchemaReader_references cl_Held n_Held_schema n_Held_commits n_Held_store n_Held_began n_Held_own
  obtain ⟨f, fd, e, b, F⟩ := all_ok (P := P) (w := w) KX G T xf_FirstFault (exm_self' e_FirstFault.exC ic_FirstFault e_FirstFault.tyC ss_FirstFault) g_past_run g_past_remark g_past_blanks g_token_end g_is_number g_sort_of g_tokens_of g_characters_of g_FirstFault_init g_SchemaReader_sort_here g_SchemaReader_token_here g_SchemaReader_place_here g_fault_of g_SchemaReader_refuse_token g_SchemaReader_take_any g_SchemaReader_take_if g_SchemaReader_take g_SchemaReader_take_name g_Column_init g_Table_init g_SchemaReader_take_new_name g_SchemaReader_read_bound g_SchemaReader_read_range g_SchemaReader_read_reference g_SchemaReader_read_column g_SchemaReader_read_table g_SchemaReader_find_targets g_SchemaReader_read_all g_SchemaReader_init g_read_schema g_number_kind g_reference_kind g_column_line g_schema_text g_is_row_count g_are_values g_read_rows g_read_tables g_value_broken g_row_broken g_first_broken g_change_of g_added_clashes g_altered_clashes g_row_clashes g_find_clashes g_changed_rows g_merged_one g_merged_fields g_merged_row g_merged_tables g_choices_by_row g_numbers_of g_first_unfit g_counted g_Held_changed_by g_Held_clashes_of g_Held_changed g_Held_clashes g_Held_begin_with g_Held_init g_Held_judge_tables g_Held_fill g_Held_set_own g_Held_load g_Held_written g_Held_tables g_Held_size g_Held_merge g_Held_merged g_Held_commit g_Held_refresh g_Held_twin g_Held_store_behind g_Held_orders g_answer_call g_read_calls g_answers
  have e := hfa.symm.trans e
  cases e
  exact ⟨fd, b, fun base _ _ => F base⟩
end Tw
open PySem PySem.W PyProof.Rows
set_option maxRecDepth 100000 in
set_option maxHeartbeats 80000000 in
theorem PySem.Challenge.cw_twosessions_s01_answers_holds : PySem.Challenge.rw_twosessions_s01_answers.Holds := by
  w_on
  refine Tw.hd ?_
  k_fillS
  refine L2.walk_specK (r := PySem.Challenge.rw_twosessions_s01_answers) (k := 12) (CX := L2.CX0) (ps := ["calls"]) (sp := Tw.sp_answers) Tw.well rfl rfl ⟨rfl, by decide, by decide⟩ (fun w h Y => PySem.W.kIn_of Y) ?F ?S (fun _ _ _ _ z => z)
  case F =>
    intro w mg fa h Y KX G hmg
    clear Y
    refine' Tw.all_mk KX G hmg ?a_Table ?a_Column ?a_FirstFault ?a_SchemaReader ?a_Held ?a_SINGLE_NUMBERS ?a_HAS_LIST ?a_NO_NAMES ?a_SESSIONS ?a_MODES ?a_CHOICES ?k_LOAD ?k_WRITTEN ?k_FILL ?k_SET ?k_CHANGED ?k_CLASHES ?k_MERGED ?k_COMMIT ?k_REFRESH ?k_TABLES ?k_ORDERS ?t_SINGLE_NUMBERS ?t_HAS_LIST ?k_ADDED ?k_ALTERED ?k_REMOVED ?k_BOTH_ALTERED ?k_STORE_REMOVED ?k_SESSION_REMOVED ?k_BOTH_ADDED ?k_WHOLE_ROW ?k_OF_THE_SESSION ?k_FARTHEST ?k_LETTERS ?k_DIGITS ?k_WORD_SIGNS ?k_SIGNS ?k_BLANKS ?k_KNOWN_SIGNS ?k_UNKNOWN_SIGN ?k_LONGEST_WORD ?k_MOST_DIGITS ?k_GREATEST_NUMBER ?k_WORD ?k_NUMBER ?k_SIGN ?k_END ?k_STRAY ?k_MALFORMED ?k_MOST_TABLES ?k_MOST_COLUMNS ?t_NO_NAMES ?k_NO_TOKEN ?k_NOT_AS_TOLD ?k_CANNOT_STAND ?k_ENDS_EARLY ?k_TOO_MANY ?k_NAMED_TWICE ?k_NO_SUCH_TABLE ?k_AT_ODDS ?k_MOST_ROWS ?k_GREATEST_ID ?k_OUT_OF_RANGE ?k_NO_SUCH_ROW ?k_NOT_UNIQUE ?k_TOO_MANY_ROWS ?k_NOTHING_BROKEN ?k_LONGEST_TEXT ?k_GREATEST_BYTE ?k_NO_BYTE ?k_TOO_LONG ?k_NO_SESSION ?k_NOT_ROWS ?k_NO_MODE ?k_NO_CHOICE ?k_OTHER_COUNT ?k_NOT_GOOD ?k_SAME_STORE ?k_UNLIKE_STORES ?k_NOT_BOTH_ORDERS ?t_SESSIONS ?k_STORE ?t_MODES ?k_BY_FIELDS ?t_CHOICES ?b_len ?b_range ?b_enumerate ?b_sorted ?b_set ?b_sum ?b_any ?b_all ?b_abs ?b_ord ?b_int ?b_str ?b_tuple ?b_Exception ?b_zip ?b_list ?cl_Table ?n_Table_name ?n_Table_columns ?cl_Column ?n_Column_name ?n_Column_low ?n_Column_high ?n_Column_target ?n_Column_allows_none ?n_Column_removal ?n_Column_unique ?e_FirstFault ?xf_FirstFault ?ic_FirstFault ?ss_FirstFault ?n_FirstFault_kind ?n_FirstFault_place ?cl_SchemaReader ?n_SchemaReader_tokens ?n_SchemaReader_position ?n_SchemaReader_schema ?n_SchemaReader_references ?cl_Held ?n_Held_schema ?n_Held_commits ?n_Held_store ?n_Held_began ?n_Held_own ?g_past_run ?g_past_remark ?g_past_blanks ?g_token_end ?g_is_number ?g_sort_of ?g_tokens_of ?g_characters_of ?g_FirstFault_init ?g_SchemaReader_sort_here ?g_SchemaReader_token_here ?g_SchemaReader_place_here ?g_fault_of ?g_SchemaReader_refuse_token ?g_SchemaReader_take_any ?g_SchemaReader_take_if ?g_SchemaReader_take ?g_SchemaReader_take_name ?g_Column_init ?g_Table_init ?g_SchemaReader_take_new_name ?g_SchemaReader_read_bound ?g_SchemaReader_read_range ?g_SchemaReader_read_reference ?g_SchemaReader_read_column ?g_SchemaReader_read_table ?g_SchemaReader_find_targets ?g_SchemaReader_read_all ?g_SchemaReader_init ?g_read_schema ?g_number_kind ?g_reference_kind ?g_column_line ?g_schema_text ?g_is_row_count ?g_are_values ?g_read_rows ?g_read_tables ?g_value_broken ?g_row_broken ?g_first_broken ?g_change_of ?g_added_clashes ?g_altered_clashes ?g_row_clashes ?g_find_clashes ?g_changed_rows ?g_merged_one ?g_merged_fields ?g_merged_row ?g_merged_tables ?g_choices_by_row ?g_numbers_of ?g_first_unfit ?g_counted ?g_Held_changed_by ?g_Held_clashes_of ?g_Held_changed ?g_Held_clashes ?g_Held_begin_with ?g_Held_init ?g_Held_judge_tables ?g_Held_fill ?g_Held_set_own ?g_Held_load ?g_Held_written ?g_Held_tables ?g_Held_size ?g_Held_merge ?g_Held_merged ?g_Held_commit ?g_Held_refresh ?g_Held_twin ?g_Held_store_behind ?g_Held_orders ?g_answer_call ?g_read_calls ?g_answers
    (case a_Table => k_is)
    (case a_Column => k_is)
    (case a_FirstFault => k_is)
    (case a_SchemaReader => k_is)
    (case a_Held => k_is)
    (case a_SINGLE_NUMBERS => k_is)
    (case a_HAS_LIST => k_is)
    (case a_NO_NAMES => k_is)
    (case a_SESSIONS => k_is)
    (case a_MODES => k_is)
    (case a_CHOICES => k_is)
    (case k_LOAD => (refine' Tw.cf_in ?ta_k_LOAD ?tb_k_LOAD; (case ta_k_LOAD => k_is); (case tb_k_LOAD => exact ⟨_, rfl⟩)))
    (case k_WRITTEN => (refine' Tw.cf_in ?ta_k_WRITTEN ?tb_k_WRITTEN; (case ta_k_WRITTEN => k_is); (case tb_k_WRITTEN => exact ⟨_, rfl⟩)))
    (case k_FILL => (refine' Tw.cf_in ?ta_k_FILL ?tb_k_FILL; (case ta_k_FILL => k_is); (case tb_k_FILL => exact ⟨_, rfl⟩)))
    (case k_SET => (refine' Tw.cf_in ?ta_k_SET ?tb_k_SET; (case ta_k_SET => k_is); (case tb_k_SET => exact ⟨_, rfl⟩)))
    (case k_CHANGED => (refine' Tw.cf_in ?ta_k_CHANGED ?tb_k_CHANGED; (case ta_k_CHANGED => k_is); (case tb_k_CHANGED => exact ⟨_, rfl⟩)))
    (case k_CLASHES => (refine' Tw.cf_in ?ta_k_CLASHES ?tb_k_CLASHES; (case ta_k_CLASHES => k_is); (case tb_k_CLASHES => exact ⟨_, rfl⟩)))
    (case k_MERGED => (refine' Tw.cf_in ?ta_k_MERGED ?tb_k_MERGED; (case ta_k_MERGED => k_is); (case tb_k_MERGED => exact ⟨_, rfl⟩)))
    (case k_COMMIT => (refine' Tw.cf_in ?ta_k_COMMIT ?tb_k_COMMIT; (case ta_k_COMMIT => k_is); (case tb_k_COMMIT => exact ⟨_, rfl⟩)))
    (case k_REFRESH => (refine' Tw.cf_in ?ta_k_REFRESH ?tb_k_REFRESH; (case ta_k_REFRESH => k_is); (case tb_k_REFRESH => exact ⟨_, rfl⟩)))
    (case k_TABLES => (refine' Tw.cf_in ?ta_k_TABLES ?tb_k_TABLES; (case ta_k_TABLES => k_is); (case tb_k_TABLES => exact ⟨_, rfl⟩)))
    (case k_ORDERS => (refine' Tw.cf_in ?ta_k_ORDERS ?tb_k_ORDERS; (case ta_k_ORDERS => k_is); (case tb_k_ORDERS => exact ⟨_, rfl⟩)))
    (case t_SINGLE_NUMBERS => (refine' Tw.tu_in ?ta_t_SINGLE_NUMBERS ?tb_t_SINGLE_NUMBERS ?tc_t_SINGLE_NUMBERS; (case ta_t_SINGLE_NUMBERS => k_is); (case tb_t_SINGLE_NUMBERS => exact Nat.le_of_ble_eq_true rfl); (case tc_t_SINGLE_NUMBERS => exact (.cons ⟨_, rfl⟩ (.cons ⟨_, rfl⟩ (.cons ⟨_, rfl⟩ (.cons ⟨_, rfl⟩ (.cons ⟨_, rfl⟩ (.cons ⟨_, rfl⟩ (.cons ⟨_, rfl⟩ (.cons ⟨_, rfl⟩ (.cons ⟨_, rfl⟩ (.cons ⟨_, rfl⟩ (.cons ⟨_, rfl⟩ (.cons ⟨_, rfl⟩ .nil)))))))))))))))
    (case t_HAS_LIST => (refine' Tw.tu_in ?ta_t_HAS_LIST ?tb_t_HAS_LIST ?tc_t_HAS_LIST; (case ta_t_HAS_LIST => k_is); (case tb_t_HAS_LIST => exact Nat.le_of_ble_eq_true rfl); (case tc_t_HAS_LIST => exact (.cons rfl (.cons rfl (.cons rfl (.cons rfl (.cons rfl (.cons rfl (.cons rfl (.cons rfl (.cons rfl (.cons rfl (.cons rfl (.cons rfl .nil)))))))))))))))
    (case k_ADDED => (refine' Tw.cf_in ?ta_k_ADDED ?tb_k_ADDED; (case ta_k_ADDED => k_is); (case tb_k_ADDED => exact ⟨_, rfl⟩)))
    (case k_ALTERED => (refine' Tw.cf_in ?ta_k_ALTERED ?tb_k_ALTERED; (case ta_k_ALTERED => k_is); (case tb_k_ALTERED => exact ⟨_, rfl⟩)))
    (case k_REMOVED => (refine' Tw.cf_in ?ta_k_REMOVED ?tb_k_REMOVED; (case ta_k_REMOVED => k_is); (case tb_k_REMOVED => exact ⟨_, rfl⟩)))
    (case k_BOTH_ALTERED => (refine' Tw.cf_in ?ta_k_BOTH_ALTERED ?tb_k_BOTH_ALTERED; (case ta_k_BOTH_ALTERED => k_is); (case tb_k_BOTH_ALTERED => exact ⟨_, rfl⟩)))
    (case k_STORE_REMOVED => (refine' Tw.cf_in ?ta_k_STORE_REMOVED ?tb_k_STORE_REMOVED; (case ta_k_STORE_REMOVED => k_is); (case tb_k_STORE_REMOVED => exact ⟨_, rfl⟩)))
    (case k_SESSION_REMOVED => (refine' Tw.cf_in ?ta_k_SESSION_REMOVED ?tb_k_SESSION_REMOVED; (case ta_k_SESSION_REMOVED => k_is); (case tb_k_SESSION_REMOVED => exact ⟨_, rfl⟩)))
    (case k_BOTH_ADDED => (refine' Tw.cf_in ?ta_k_BOTH_ADDED ?tb_k_BOTH_ADDED; (case ta_k_BOTH_ADDED => k_is); (case tb_k_BOTH_ADDED => exact ⟨_, rfl⟩)))
    (case k_WHOLE_ROW => (refine' Tw.cf_in ?ta_k_WHOLE_ROW ?tb_k_WHOLE_ROW; (case ta_k_WHOLE_ROW => k_is); (case tb_k_WHOLE_ROW => exact ⟨_, rfl⟩)))
    (case k_OF_THE_SESSION => (refine' Tw.cf_in ?ta_k_OF_THE_SESSION ?tb_k_OF_THE_SESSION; (case ta_k_OF_THE_SESSION => k_is); (case tb_k_OF_THE_SESSION => exact ⟨_, rfl⟩)))
    (case k_FARTHEST => (refine' Tw.cf_in ?ta_k_FARTHEST ?tb_k_FARTHEST; (case ta_k_FARTHEST => k_is); (case tb_k_FARTHEST => exact ⟨_, rfl⟩)))
    (case k_LETTERS => (refine' Tw.cf_in ?ta_k_LETTERS ?tb_k_LETTERS; (case ta_k_LETTERS => k_is); (case tb_k_LETTERS => exact ⟨_, rfl⟩)))
    (case k_DIGITS => (refine' Tw.cf_in ?ta_k_DIGITS ?tb_k_DIGITS; (case ta_k_DIGITS => k_is); (case tb_k_DIGITS => exact ⟨_, rfl⟩)))
    (case k_WORD_SIGNS => (refine' Tw.cf_in ?ta_k_WORD_SIGNS ?tb_k_WORD_SIGNS; (case ta_k_WORD_SIGNS => k_is); (case tb_k_WORD_SIGNS => exact ⟨_, rfl⟩)))
    (case k_SIGNS => (refine' Tw.cf_in ?ta_k_SIGNS ?tb_k_SIGNS; (case ta_k_SIGNS => k_is); (case tb_k_SIGNS => exact ⟨_, rfl⟩)))
    (case k_BLANKS => (refine' Tw.cf_in ?ta_k_BLANKS ?tb_k_BLANKS; (case ta_k_BLANKS => k_is); (case tb_k_BLANKS => exact ⟨_, rfl⟩)))
    (case k_KNOWN_SIGNS => (refine' Tw.cf_in ?ta_k_KNOWN_SIGNS ?tb_k_KNOWN_SIGNS; (case ta_k_KNOWN_SIGNS => k_is); (case tb_k_KNOWN_SIGNS => exact ⟨_, rfl⟩)))
    (case k_UNKNOWN_SIGN => (refine' Tw.cf_in ?ta_k_UNKNOWN_SIGN ?tb_k_UNKNOWN_SIGN; (case ta_k_UNKNOWN_SIGN => k_is); (case tb_k_UNKNOWN_SIGN => exact ⟨_, rfl⟩)))
    (case k_LONGEST_WORD => (refine' Tw.cf_in ?ta_k_LONGEST_WORD ?tb_k_LONGEST_WORD; (case ta_k_LONGEST_WORD => k_is); (case tb_k_LONGEST_WORD => exact ⟨_, rfl⟩)))
    (case k_MOST_DIGITS => (refine' Tw.cf_in ?ta_k_MOST_DIGITS ?tb_k_MOST_DIGITS; (case ta_k_MOST_DIGITS => k_is); (case tb_k_MOST_DIGITS => exact ⟨_, rfl⟩)))
    (case k_GREATEST_NUMBER => (refine' Tw.cf_in ?ta_k_GREATEST_NUMBER ?tb_k_GREATEST_NUMBER; (case ta_k_GREATEST_NUMBER => k_is); (case tb_k_GREATEST_NUMBER => exact ⟨_, rfl⟩)))
    (case k_WORD => (refine' Tw.cf_in ?ta_k_WORD ?tb_k_WORD; (case ta_k_WORD => k_is); (case tb_k_WORD => exact ⟨_, rfl⟩)))
    (case k_NUMBER => (refine' Tw.cf_in ?ta_k_NUMBER ?tb_k_NUMBER; (case ta_k_NUMBER => k_is); (case tb_k_NUMBER => exact ⟨_, rfl⟩)))
    (case k_SIGN => (refine' Tw.cf_in ?ta_k_SIGN ?tb_k_SIGN; (case ta_k_SIGN => k_is); (case tb_k_SIGN => exact ⟨_, rfl⟩)))
    (case k_END => (refine' Tw.cf_in ?ta_k_END ?tb_k_END; (case ta_k_END => k_is); (case tb_k_END => exact ⟨_, rfl⟩)))
    (case k_STRAY => (refine' Tw.cf_in ?ta_k_STRAY ?tb_k_STRAY; (case ta_k_STRAY => k_is); (case tb_k_STRAY => exact ⟨_, rfl⟩)))
    (case k_MALFORMED => (refine' Tw.cf_in ?ta_k_MALFORMED ?tb_k_MALFORMED; (case ta_k_MALFORMED => k_is); (case tb_k_MALFORMED => exact ⟨_, rfl⟩)))
    (case k_MOST_TABLES => (refine' Tw.cf_in ?ta_k_MOST_TABLES ?tb_k_MOST_TABLES; (case ta_k_MOST_TABLES => k_is); (case tb_k_MOST_TABLES => exact ⟨_, rfl⟩)))
    (case k_MOST_COLUMNS => (refine' Tw.cf_in ?ta_k_MOST_COLUMNS ?tb_k_MOST_COLUMNS; (case ta_k_MOST_COLUMNS => k_is); (case tb_k_MOST_COLUMNS => exact ⟨_, rfl⟩)))
    (case t_NO_NAMES => (refine' Tw.tu_in ?ta_t_NO_NAMES ?tb_t_NO_NAMES ?tc_t_NO_NAMES; (case ta_t_NO_NAMES => k_is); (case tb_t_NO_NAMES => exact Nat.le_of_ble_eq_true rfl); (case tc_t_NO_NAMES => exact (.cons ⟨_, rfl⟩ (.cons ⟨_, rfl⟩ (.cons ⟨_, rfl⟩ (.cons ⟨_, rfl⟩ (.cons ⟨_, rfl⟩ (.cons ⟨_, rfl⟩ (.cons ⟨_, rfl⟩ (.cons ⟨_, rfl⟩ (.cons ⟨_, rfl⟩ .nil))))))))))))
    (case k_NO_TOKEN => (refine' Tw.cf_in ?ta_k_NO_TOKEN ?tb_k_NO_TOKEN; (case ta_k_NO_TOKEN => k_is); (case tb_k_NO_TOKEN => exact ⟨_, rfl⟩)))
    (case k_NOT_AS_TOLD => (refine' Tw.cf_in ?ta_k_NOT_AS_TOLD ?tb_k_NOT_AS_TOLD; (case ta_k_NOT_AS_TOLD => k_is); (case tb_k_NOT_AS_TOLD => exact ⟨_, rfl⟩)))
    (case k_CANNOT_STAND => (refine' Tw.cf_in ?ta_k_CANNOT_STAND ?tb_k_CANNOT_STAND; (case ta_k_CANNOT_STAND => k_is); (case tb_k_CANNOT_STAND => exact ⟨_, rfl⟩)))
    (case k_ENDS_EARLY => (refine' Tw.cf_in ?ta_k_ENDS_EARLY ?tb_k_ENDS_EARLY; (case ta_k_ENDS_EARLY => k_is); (case tb_k_ENDS_EARLY => exact ⟨_, rfl⟩)))
    (case k_TOO_MANY => (refine' Tw.cf_in ?ta_k_TOO_MANY ?tb_k_TOO_MANY; (case ta_k_TOO_MANY => k_is); (case tb_k_TOO_MANY => exact ⟨_, rfl⟩)))
    (case k_NAMED_TWICE => (refine' Tw.cf_in ?ta_k_NAMED_TWICE ?tb_k_NAMED_TWICE; (case ta_k_NAMED_TWICE => k_is); (case tb_k_NAMED_TWICE => exact ⟨_, rfl⟩)))
    (case k_NO_SUCH_TABLE => (refine' Tw.cf_in ?ta_k_NO_SUCH_TABLE ?tb_k_NO_SUCH_TABLE; (case ta_k_NO_SUCH_TABLE => k_is); (case tb_k_NO_SUCH_TABLE => exact ⟨_, rfl⟩)))
    (case k_AT_ODDS => (refine' Tw.cf_in ?ta_k_AT_ODDS ?tb_k_AT_ODDS; (case ta_k_AT_ODDS => k_is); (case tb_k_AT_ODDS => exact ⟨_, rfl⟩)))
    (case k_MOST_ROWS => (refine' Tw.cf_in ?ta_k_MOST_ROWS ?tb_k_MOST_ROWS; (case ta_k_MOST_ROWS => k_is); (case tb_k_MOST_ROWS => exact ⟨_, rfl⟩)))
    (case k_GREATEST_ID => (refine' Tw.cf_in ?ta_k_GREATEST_ID ?tb_k_GREATEST_ID; (case ta_k_GREATEST_ID => k_is); (case tb_k_GREATEST_ID => exact ⟨_, rfl⟩)))
    (case k_OUT_OF_RANGE => (refine' Tw.cf_in ?ta_k_OUT_OF_RANGE ?tb_k_OUT_OF_RANGE; (case ta_k_OUT_OF_RANGE => k_is); (case tb_k_OUT_OF_RANGE => exact ⟨_, rfl⟩)))
    (case k_NO_SUCH_ROW => (refine' Tw.cf_in ?ta_k_NO_SUCH_ROW ?tb_k_NO_SUCH_ROW; (case ta_k_NO_SUCH_ROW => k_is); (case tb_k_NO_SUCH_ROW => exact ⟨_, rfl⟩)))
    (case k_NOT_UNIQUE => (refine' Tw.cf_in ?ta_k_NOT_UNIQUE ?tb_k_NOT_UNIQUE; (case ta_k_NOT_UNIQUE => k_is); (case tb_k_NOT_UNIQUE => exact ⟨_, rfl⟩)))
    (case k_TOO_MANY_ROWS => (refine' Tw.cf_in ?ta_k_TOO_MANY_ROWS ?tb_k_TOO_MANY_ROWS; (case ta_k_TOO_MANY_ROWS => k_is); (case tb_k_TOO_MANY_ROWS => exact ⟨_, rfl⟩)))
    (case k_NOTHING_BROKEN => (refine' Tw.cf_in ?ta_k_NOTHING_BROKEN ?tb_k_NOTHING_BROKEN; (case ta_k_NOTHING_BROKEN => k_is); (case tb_k_NOTHING_BROKEN => exact ⟨_, rfl⟩)))
    (case k_LONGEST_TEXT => (refine' Tw.cf_in ?ta_k_LONGEST_TEXT ?tb_k_LONGEST_TEXT; (case ta_k_LONGEST_TEXT => k_is); (case tb_k_LONGEST_TEXT => exact ⟨_, rfl⟩)))
    (case k_GREATEST_BYTE => (refine' Tw.cf_in ?ta_k_GREATEST_BYTE ?tb_k_GREATEST_BYTE; (case ta_k_GREATEST_BYTE => k_is); (case tb_k_GREATEST_BYTE => exact ⟨_, rfl⟩)))
    (case k_NO_BYTE => (refine' Tw.cf_in ?ta_k_NO_BYTE ?tb_k_NO_BYTE; (case ta_k_NO_BYTE => k_is); (case tb_k_NO_BYTE => exact ⟨_, rfl⟩)))
    (case k_TOO_LONG => (refine' Tw.cf_in ?ta_k_TOO_LONG ?tb_k_TOO_LONG; (case ta_k_TOO_LONG => k_is); (case tb_k_TOO_LONG => exact ⟨_, rfl⟩)))
    (case k_NO_SESSION => (refine' Tw.cf_in ?ta_k_NO_SESSION ?tb_k_NO_SESSION; (case ta_k_NO_SESSION => k_is); (case tb_k_NO_SESSION => exact ⟨_, rfl⟩)))
    (case k_NOT_ROWS => (refine' Tw.cf_in ?ta_k_NOT_ROWS ?tb_k_NOT_ROWS; (case ta_k_NOT_ROWS => k_is); (case tb_k_NOT_ROWS => exact ⟨_, rfl⟩)))
    (case k_NO_MODE => (refine' Tw.cf_in ?ta_k_NO_MODE ?tb_k_NO_MODE; (case ta_k_NO_MODE => k_is); (case tb_k_NO_MODE => exact ⟨_, rfl⟩)))
    (case k_NO_CHOICE => (refine' Tw.cf_in ?ta_k_NO_CHOICE ?tb_k_NO_CHOICE; (case ta_k_NO_CHOICE => k_is); (case tb_k_NO_CHOICE => exact ⟨_, rfl⟩)))
    (case k_OTHER_COUNT => (refine' Tw.cf_in ?ta_k_OTHER_COUNT ?tb_k_OTHER_COUNT; (case ta_k_OTHER_COUNT => k_is); (case tb_k_OTHER_COUNT => exact ⟨_, rfl⟩)))
    (case k_NOT_GOOD => (refine' Tw.cf_in ?ta_k_NOT_GOOD ?tb_k_NOT_GOOD; (case ta_k_NOT_GOOD => k_is); (case tb_k_NOT_GOOD => exact ⟨_, rfl⟩)))
    (case k_SAME_STORE => (refine' Tw.cf_in ?ta_k_SAME_STORE ?tb_k_SAME_STORE; (case ta_k_SAME_STORE => k_is); (case tb_k_SAME_STORE => exact ⟨_, rfl⟩)))
    (case k_UNLIKE_STORES => (refine' Tw.cf_in ?ta_k_UNLIKE_STORES ?tb_k_UNLIKE_STORES; (case ta_k_UNLIKE_STORES => k_is); (case tb_k_UNLIKE_STORES => exact ⟨_, rfl⟩)))
    (case k_NOT_BOTH_ORDERS => (refine' Tw.cf_in ?ta_k_NOT_BOTH_ORDERS ?tb_k_NOT_BOTH_ORDERS; (case ta_k_NOT_BOTH_ORDERS => k_is); (case tb_k_NOT_BOTH_ORDERS => exact ⟨_, rfl⟩)))
    (case t_SESSIONS => (refine' Tw.tu_in ?ta_t_SESSIONS ?tb_t_SESSIONS ?tc_t_SESSIONS; (case ta_t_SESSIONS => k_is); (case tb_t_SESSIONS => exact Nat.le_of_ble_eq_true rfl); (case tc_t_SESSIONS => exact (.cons ⟨_, rfl⟩ (.cons ⟨_, rfl⟩ .nil)))))
    (case k_STORE => (refine' Tw.cf_in ?ta_k_STORE ?tb_k_STORE; (case ta_k_STORE => k_is); (case tb_k_STORE => exact ⟨_, rfl⟩)))
    (case t_MODES => (refine' Tw.tu_in ?ta_t_MODES ?tb_t_MODES ?tc_t_MODES; (case ta_t_MODES => k_is); (case tb_t_MODES => exact Nat.le_of_ble_eq_true rfl); (case tc_t_MODES => exact (.cons ⟨_, rfl⟩ (.cons ⟨_, rfl⟩ .nil)))))
    (case k_BY_FIELDS => (refine' Tw.cf_in ?ta_k_BY_FIELDS ?tb_k_BY_FIELDS; (case ta_k_BY_FIELDS => k_is); (case tb_k_BY_FIELDS => exact ⟨_, rfl⟩)))
    (case t_CHOICES => (refine' Tw.tu_in ?ta_t_CHOICES ?tb_t_CHOICES ?tc_t_CHOICES; (case ta_t_CHOICES => k_is); (case tb_t_CHOICES => exact Nat.le_of_ble_eq_true rfl); (case tc_t_CHOICES => exact (.cons ⟨_, rfl⟩ (.cons ⟨_, rfl⟩ .nil)))))
    (case b_len => k_is)
    (case b_range => k_is)
    (case b_enumerate => k_is)
    (case b_sorted => k_is)
    (case b_set => k_is)
    (case b_sum => k_is)
    (case b_any => k_is)
    (case b_all => k_is)
    (case b_abs => k_is)
    (case b_ord => k_is)
    (case b_int => k_is)
    (case b_str => k_is)
    (case b_tuple => k_is)
    (case b_Exception => k_is)
    (case b_zip => k_is)
    (case b_list => k_is)
    (case cl_Table => (refine' ⟨?ta_cl_Table, ?tb_cl_Table, ?tc_cl_Table, ?td_cl_Table⟩; (case ta_cl_Table => k_is); (case tb_cl_Table => k_is); (case tc_cl_Table => k_is); (case td_cl_Table => k_is)))
    (case n_Table_name => k_is)
    (case n_Table_columns => k_is)
    (case cl_Column => (refine' ⟨?ta_cl_Column, ?tb_cl_Column, ?tc_cl_Column, ?td_cl_Column⟩; (case ta_cl_Column => k_is); (case tb_cl_Column => k_is); (case tc_cl_Column => k_is); (case td_cl_Column => k_is)))
    (case n_Column_name => k_is)
    (case n_Column_low => k_is)
    (case n_Column_high => k_is)
    (case n_Column_target => k_is)
    (case n_Column_allows_none => k_is)
    (case n_Column_removal => k_is)
    (case n_Column_unique => k_is)
    (case e_FirstFault => (refine' Tw.ec_in ?ta_e_FirstFault ?tb_e_FirstFault ?tc_e_FirstFault ?td_e_FirstFault ?te_e_FirstFault; (case ta_e_FirstFault => k_is); (case tb_e_FirstFault => k_is); (case tc_e_FirstFault => k_is); (case td_e_FirstFault => k_is); (case te_e_FirstFault => k_is)))
    (case xf_FirstFault => (refine' ⟨?ta_xf_FirstFault, ?tb_xf_FirstFault, ?tc_xf_FirstFault, ?td_xf_FirstFault⟩; (case ta_xf_FirstFault => k_is); (case tb_xf_FirstFault => k_is); (case tc_xf_FirstFault => k_is); (case td_xf_FirstFault => k_is)))
    (case ic_FirstFault => k_is)
    (case ss_FirstFault => first | rfl | k_is)
    (case n_FirstFault_kind => k_is)
    (case n_FirstFault_place => k_is)
    (case cl_SchemaReader => (refine' ⟨?ta_cl_SchemaReader, ?tb_cl_SchemaReader, ?tc_cl_SchemaReader, ?td_cl_SchemaReader⟩; (case ta_cl_SchemaReader => k_is); (case tb_cl_SchemaReader => k_is); (case tc_cl_SchemaReader => k_is); (case td_cl_SchemaReader => k_is)))
    (case n_SchemaReader_tokens => k_is)
    (case n_SchemaReader_position => k_is)
    (case n_SchemaReader_schema => k_is)
    (case n_SchemaReader_references => k_is)
    (case cl_Held => (refine' ⟨?ta_cl_Held, ?tb_cl_Held, ?tc_cl_Held, ?td_cl_Held⟩; (case ta_cl_Held => k_is); (case tb_cl_Held => k_is); (case tc_cl_Held => k_is); (case td_cl_Held => k_is)))
    (case n_Held_schema => k_is)
    (case n_Held_commits => k_is)
    (case n_Held_store => k_is)
    (case n_Held_began => k_is)
    (case n_Held_own => k_is)
    (case g_past_run => (refine' Tw.gf_in ?ta_g_past_run ?tl_g_past_run ?tc_g_past_run ?tk_g_past_run; (case ta_g_past_run => k_is); (case tl_g_past_run => k_is); (case tc_g_past_run => k_is); (case tk_g_past_run => k_is)))
    (case g_past_remark => (refine' Tw.gf_in ?ta_g_past_remark ?tl_g_past_remark ?tc_g_past_remark ?tk_g_past_remark; (case ta_g_past_remark => k_is); (case tl_g_past_remark => k_is); (case tc_g_past_remark => k_is); (case tk_g_past_remark => k_is)))
    (case g_past_blanks => (refine' Tw.gf_in ?ta_g_past_blanks ?tl_g_past_blanks ?tc_g_past_blanks ?tk_g_past_blanks; (case ta_g_past_blanks => k_is); (case tl_g_past_blanks => k_is); (case tc_g_past_blanks => k_is); (case tk_g_past_blanks => k_is)))
    (case g_token_end => (refine' Tw.gf_in ?ta_g_token_end ?tl_g_token_end ?tc_g_token_end ?tk_g_token_end; (case ta_g_token_end => k_is); (case tl_g_token_end => k_is); (case tc_g_token_end => k_is); (case tk_g_token_end => k_is)))
    (case g_is_number => (refine' Tw.gf_in ?ta_g_is_number ?tl_g_is_number ?tc_g_is_number ?tk_g_is_number; (case ta_g_is_number => k_is); (case tl_g_is_number => k_is); (case tc_g_is_number => k_is); (case tk_g_is_number => k_is)))
    (case g_sort_of => (refine' Tw.gf_in ?ta_g_sort_of ?tl_g_sort_of ?tc_g_sort_of ?tk_g_sort_of; (case ta_g_sort_of => k_is); (case tl_g_sort_of => k_is); (case tc_g_sort_of => k_is); (case tk_g_sort_of => k_is)))
    (case g_tokens_of => (refine' Tw.gf_in ?ta_g_tokens_of ?tl_g_tokens_of ?tc_g_tokens_of ?tk_g_tokens_of; (case ta_g_tokens_of => k_is); (case tl_g_tokens_of => k_is); (case tc_g_tokens_of => k_is); (case tk_g_tokens_of => k_is)))
    (case g_characters_of => (refine' Tw.gf_in ?ta_g_characters_of ?tl_g_characters_of ?tc_g_characters_of ?tk_g_characters_of; (case ta_g_characters_of => k_is); (case tl_g_characters_of => k_is); (case tc_g_characters_of => k_is); (case tk_g_characters_of => k_is)))
    (case g_FirstFault_init => (refine' Tw.xf_in ?ta_g_FirstFault_init ?tl_g_FirstFault_init ?tc_g_FirstFault_init ?tk_g_FirstFault_init ?ti_g_FirstFault_init; (case ta_g_FirstFault_init => k_is); (case tl_g_FirstFault_init => k_is); (case tc_g_FirstFault_init => k_is); (case tk_g_FirstFault_init => k_is); (case ti_g_FirstFault_init => k_is)))
    (case g_SchemaReader_sort_here => (refine' Tw.mf_in ?ta_g_SchemaReader_sort_here ?tl_g_SchemaReader_sort_here ?tc_g_SchemaReader_sort_here ?tk_g_SchemaReader_sort_here ?ti_g_SchemaReader_sort_here; (case ta_g_SchemaReader_sort_here => k_is); (case tl_g_SchemaReader_sort_here => k_is); (case tc_g_SchemaReader_sort_here => k_is); (case tk_g_SchemaReader_sort_here => k_is); (case ti_g_SchemaReader_sort_here => k_is)))
    (case g_SchemaReader_token_here => (refine' Tw.mf_in ?ta_g_SchemaReader_token_here ?tl_g_SchemaReader_token_here ?tc_g_SchemaReader_token_here ?tk_g_SchemaReader_token_here ?ti_g_SchemaReader_token_here; (case ta_g_SchemaReader_token_here => k_is); (case tl_g_SchemaReader_token_here => k_is); (case tc_g_SchemaReader_token_here => k_is); (case tk_g_SchemaReader_token_here => k_is); (case ti_g_SchemaReader_token_here => k_is)))
    (case g_SchemaReader_place_here => (refine' Tw.mf_in ?ta_g_SchemaReader_place_here ?tl_g_SchemaReader_place_here ?tc_g_SchemaReader_place_here ?tk_g_SchemaReader_place_here ?ti_g_SchemaReader_place_here; (case ta_g_SchemaReader_place_here => k_is); (case tl_g_SchemaReader_place_here => k_is); (case tc_g_SchemaReader_place_here => k_is); (case tk_g_SchemaReader_place_here => k_is); (case ti_g_SchemaReader_place_here => k_is)))
    (case g_fault_of => (refine' Tw.gf_in ?ta_g_fault_of ?tl_g_fault_of ?tc_g_fault_of ?tk_g_fault_of; (case ta_g_fault_of => k_is); (case tl_g_fault_of => k_is); (case tc_g_fault_of => k_is); (case tk_g_fault_of => k_is)))
    (case g_SchemaReader_refuse_token => (refine' Tw.mf_in ?ta_g_SchemaReader_refuse_token ?tl_g_SchemaReader_refuse_token ?tc_g_SchemaReader_refuse_token ?tk_g_SchemaReader_refuse_token ?ti_g_SchemaReader_refuse_token; (case ta_g_SchemaReader_refuse_token => k_is); (case tl_g_SchemaReader_refuse_token => k_is); (case tc_g_SchemaReader_refuse_token => k_is); (case tk_g_SchemaReader_refuse_token => k_is); (case ti_g_SchemaReader_refuse_token => k_is)))
    (case g_SchemaReader_take_any => (refine' Tw.mf_in ?ta_g_SchemaReader_take_any ?tl_g_SchemaReader_take_any ?tc_g_SchemaReader_take_any ?tk_g_SchemaReader_take_any ?ti_g_SchemaReader_take_any; (case ta_g_SchemaReader_take_any => k_is); (case tl_g_SchemaReader_take_any => k_is); (case tc_g_SchemaReader_take_any => k_is); (case tk_g_SchemaReader_take_any => k_is); (case ti_g_SchemaReader_take_any => k_is)))
    (case g_SchemaReader_take_if => (refine' Tw.mf_in ?ta_g_SchemaReader_take_if ?tl_g_SchemaReader_take_if ?tc_g_SchemaReader_take_if ?tk_g_SchemaReader_take_if ?ti_g_SchemaReader_take_if; (case ta_g_SchemaReader_take_if => k_is); (case tl_g_SchemaReader_take_if => k_is); (case tc_g_SchemaReader_take_if => k_is); (case tk_g_SchemaReader_take_if => k_is); (case ti_g_SchemaReader_take_if => k_is)))
    (case g_SchemaReader_take => (refine' Tw.mf_in ?ta_g_SchemaReader_take ?tl_g_SchemaReader_take ?tc_g_SchemaReader_take ?tk_g_SchemaReader_take ?ti_g_SchemaReader_take; (case ta_g_SchemaReader_take => k_is); (case tl_g_SchemaReader_take => k_is); (case tc_g_SchemaReader_take => k_is); (case tk_g_SchemaReader_take => k_is); (case ti_g_SchemaReader_take => k_is)))
    (case g_SchemaReader_take_name => (refine' Tw.mf_in ?ta_g_SchemaReader_take_name ?tl_g_SchemaReader_take_name ?tc_g_SchemaReader_take_name ?tk_g_SchemaReader_take_name ?ti_g_SchemaReader_take_name; (case ta_g_SchemaReader_take_name => k_is); (case tl_g_SchemaReader_take_name => k_is); (case tc_g_SchemaReader_take_name => k_is); (case tk_g_SchemaReader_take_name => k_is); (case ti_g_SchemaReader_take_name => k_is)))
    (case g_Column_init => (refine' Tw.if_in ?ta_g_Column_init ?tl_g_Column_init ?tc_g_Column_init ?tk_g_Column_init ?ti_g_Column_init ?tm_g_Column_init ?tn_g_Column_init; (case ta_g_Column_init => k_is); (case tl_g_Column_init => k_is); (case tc_g_Column_init => k_is); (case tk_g_Column_init => k_is); (case ti_g_Column_init => k_is); (case tm_g_Column_init => k_is); (case tn_g_Column_init => k_is)))
    (case g_Table_init => (refine' Tw.if_in ?ta_g_Table_init ?tl_g_Table_init ?tc_g_Table_init ?tk_g_Table_init ?ti_g_Table_init ?tm_g_Table_init ?tn_g_Table_init; (case ta_g_Table_init => k_is); (case tl_g_Table_init => k_is); (case tc_g_Table_init => k_is); (case tk_g_Table_init => k_is); (case ti_g_Table_init => k_is); (case tm_g_Table_init => k_is); (case tn_g_Table_init => k_is)))
    (case g_SchemaReader_take_new_name => (refine' Tw.mf_in ?ta_g_SchemaReader_take_new_name ?tl_g_SchemaReader_take_new_name ?tc_g_SchemaReader_take_new_name ?tk_g_SchemaReader_take_new_name ?ti_g_SchemaReader_take_new_name; (case ta_g_SchemaReader_take_new_name => k_is); (case tl_g_SchemaReader_take_new_name => k_is); (case tc_g_SchemaReader_take_new_name => k_is); (case tk_g_SchemaReader_take_new_name => k_is); (case ti_g_SchemaReader_take_new_name => k_is)))
    (case g_SchemaReader_read_bound => (refine' Tw.mf_in ?ta_g_SchemaReader_read_bound ?tl_g_SchemaReader_read_bound ?tc_g_SchemaReader_read_bound ?tk_g_SchemaReader_read_bound ?ti_g_SchemaReader_read_bound; (case ta_g_SchemaReader_read_bound => k_is); (case tl_g_SchemaReader_read_bound => k_is); (case tc_g_SchemaReader_read_bound => k_is); (case tk_g_SchemaReader_read_bound => k_is); (case ti_g_SchemaReader_read_bound => k_is)))
    (case g_SchemaReader_read_range => (refine' Tw.mf_in ?ta_g_SchemaReader_read_range ?tl_g_SchemaReader_read_range ?tc_g_SchemaReader_read_range ?tk_g_SchemaReader_read_range ?ti_g_SchemaReader_read_range; (case ta_g_SchemaReader_read_range => k_is); (case tl_g_SchemaReader_read_range => k_is); (case tc_g_SchemaReader_read_range => k_is); (case tk_g_SchemaReader_read_range => k_is); (case ti_g_SchemaReader_read_range => k_is)))
    (case g_SchemaReader_read_reference => (refine' Tw.mf_in ?ta_g_SchemaReader_read_reference ?tl_g_SchemaReader_read_reference ?tc_g_SchemaReader_read_reference ?tk_g_SchemaReader_read_reference ?ti_g_SchemaReader_read_reference; (case ta_g_SchemaReader_read_reference => k_is); (case tl_g_SchemaReader_read_reference => k_is); (case tc_g_SchemaReader_read_reference => k_is); (case tk_g_SchemaReader_read_reference => k_is); (case ti_g_SchemaReader_read_reference => k_is)))
    (case g_SchemaReader_read_column => (refine' Tw.mf_in ?ta_g_SchemaReader_read_column ?tl_g_SchemaReader_read_column ?tc_g_SchemaReader_read_column ?tk_g_SchemaReader_read_column ?ti_g_SchemaReader_read_column; (case ta_g_SchemaReader_read_column => k_is); (case tl_g_SchemaReader_read_column => k_is); (case tc_g_SchemaReader_read_column => k_is); (case tk_g_SchemaReader_read_column => k_is); (case ti_g_SchemaReader_read_column => k_is)))
    (case g_SchemaReader_read_table => (refine' Tw.mf_in ?ta_g_SchemaReader_read_table ?tl_g_SchemaReader_read_table ?tc_g_SchemaReader_read_table ?tk_g_SchemaReader_read_table ?ti_g_SchemaReader_read_table; (case ta_g_SchemaReader_read_table => k_is); (case tl_g_SchemaReader_read_table => k_is); (case tc_g_SchemaReader_read_table => k_is); (case tk_g_SchemaReader_read_table => k_is); (case ti_g_SchemaReader_read_table => k_is)))
    (case g_SchemaReader_find_targets => (refine' Tw.mf_in ?ta_g_SchemaReader_find_targets ?tl_g_SchemaReader_find_targets ?tc_g_SchemaReader_find_targets ?tk_g_SchemaReader_find_targets ?ti_g_SchemaReader_find_targets; (case ta_g_SchemaReader_find_targets => k_is); (case tl_g_SchemaReader_find_targets => k_is); (case tc_g_SchemaReader_find_targets => k_is); (case tk_g_SchemaReader_find_targets => k_is); (case ti_g_SchemaReader_find_targets => k_is)))
    (case g_SchemaReader_read_all => (refine' Tw.mf_in ?ta_g_SchemaReader_read_all ?tl_g_SchemaReader_read_all ?tc_g_SchemaReader_read_all ?tk_g_SchemaReader_read_all ?ti_g_SchemaReader_read_all; (case ta_g_SchemaReader_read_all => k_is); (case tl_g_SchemaReader_read_all => k_is); (case tc_g_SchemaReader_read_all => k_is); (case tk_g_SchemaReader_read_all => k_is); (case ti_g_SchemaReader_read_all => k_is)))
    (case g_SchemaReader_init => (refine' Tw.if_in ?ta_g_SchemaReader_init ?tl_g_SchemaReader_init ?tc_g_SchemaReader_init ?tk_g_SchemaReader_init ?ti_g_SchemaReader_init ?tm_g_SchemaReader_init ?tn_g_SchemaReader_init; (case ta_g_SchemaReader_init => k_is); (case tl_g_SchemaReader_init => k_is); (case tc_g_SchemaReader_init => k_is); (case tk_g_SchemaReader_init => k_is); (case ti_g_SchemaReader_init => k_is); (case tm_g_SchemaReader_init => k_is); (case tn_g_SchemaReader_init => k_is)))
    (case g_read_schema => (refine' Tw.gf_in ?ta_g_read_schema ?tl_g_read_schema ?tc_g_read_schema ?tk_g_read_schema; (case ta_g_read_schema => k_is); (case tl_g_read_schema => k_is); (case tc_g_read_schema => k_is); (case tk_g_read_schema => k_is)))
    (case g_number_kind => (refine' Tw.gf_in ?ta_g_number_kind ?tl_g_number_kind ?tc_g_number_kind ?tk_g_number_kind; (case ta_g_number_kind => k_is); (case tl_g_number_kind => k_is); (case tc_g_number_kind => k_is); (case tk_g_number_kind => k_is)))
    (case g_reference_kind => (refine' Tw.gf_in ?ta_g_reference_kind ?tl_g_reference_kind ?tc_g_reference_kind ?tk_g_reference_kind; (case ta_g_reference_kind => k_is); (case tl_g_reference_kind => k_is); (case tc_g_reference_kind => k_is); (case tk_g_reference_kind => k_is)))
    (case g_column_line => (refine' Tw.gf_in ?ta_g_column_line ?tl_g_column_line ?tc_g_column_line ?tk_g_column_line; (case ta_g_column_line => k_is); (case tl_g_column_line => k_is); (case tc_g_column_line => k_is); (case tk_g_column_line => k_is)))
    (case g_schema_text => (refine' Tw.gf_in ?ta_g_schema_text ?tl_g_schema_text ?tc_g_schema_text ?tk_g_schema_text; (case ta_g_schema_text => k_is); (case tl_g_schema_text => k_is); (case tc_g_schema_text => k_is); (case tk_g_schema_text => k_is)))
    (case g_is_row_count => (refine' Tw.gf_in ?ta_g_is_row_count ?tl_g_is_row_count ?tc_g_is_row_count ?tk_g_is_row_count; (case ta_g_is_row_count => k_is); (case tl_g_is_row_count => k_is); (case tc_g_is_row_count => k_is); (case tk_g_is_row_count => k_is)))
    (case g_are_values => (refine' Tw.gf_in ?ta_g_are_values ?tl_g_are_values ?tc_g_are_values ?tk_g_are_values; (case ta_g_are_values => k_is); (case tl_g_are_values => k_is); (case tc_g_are_values => k_is); (case tk_g_are_values => k_is)))
    (case g_read_rows => (refine' Tw.gf_in ?ta_g_read_rows ?tl_g_read_rows ?tc_g_read_rows ?tk_g_read_rows; (case ta_g_read_rows => k_is); (case tl_g_read_rows => k_is); (case tc_g_read_rows => k_is); (case tk_g_read_rows => k_is)))
    (case g_read_tables => (refine' Tw.gf_in ?ta_g_read_tables ?tl_g_read_tables ?tc_g_read_tables ?tk_g_read_tables; (case ta_g_read_tables => k_is); (case tl_g_read_tables => k_is); (case tc_g_read_tables => k_is); (case tk_g_read_tables => k_is)))
    (case g_value_broken => (refine' Tw.gf_in ?ta_g_value_broken ?tl_g_value_broken ?tc_g_value_broken ?tk_g_value_broken; (case ta_g_value_broken => k_is); (case tl_g_value_broken => k_is); (case tc_g_value_broken => k_is); (case tk_g_value_broken => k_is)))
    (case g_row_broken => (refine' Tw.gf_in ?ta_g_row_broken ?tl_g_row_broken ?tc_g_row_broken ?tk_g_row_broken; (case ta_g_row_broken => k_is); (case tl_g_row_broken => k_is); (case tc_g_row_broken => k_is); (case tk_g_row_broken => k_is)))
    (case g_first_broken => (refine' Tw.gf_in ?ta_g_first_broken ?tl_g_first_broken ?tc_g_first_broken ?tk_g_first_broken; (case ta_g_first_broken => k_is); (case tl_g_first_broken => k_is); (case tc_g_first_broken => k_is); (case tk_g_first_broken => k_is)))
    (case g_change_of => (refine' Tw.gf_in ?ta_g_change_of ?tl_g_change_of ?tc_g_change_of ?tk_g_change_of; (case ta_g_change_of => k_is); (case tl_g_change_of => k_is); (case tc_g_change_of => k_is); (case tk_g_change_of => k_is)))
    (case g_added_clashes => (refine' Tw.gf_in ?ta_g_added_clashes ?tl_g_added_clashes ?tc_g_added_clashes ?tk_g_added_clashes; (case ta_g_added_clashes => k_is); (case tl_g_added_clashes => k_is); (case tc_g_added_clashes => k_is); (case tk_g_added_clashes => k_is)))
    (case g_altered_clashes => (refine' Tw.gf_in ?ta_g_altered_clashes ?tl_g_altered_clashes ?tc_g_altered_clashes ?tk_g_altered_clashes; (case ta_g_altered_clashes => k_is); (case tl_g_altered_clashes => k_is); (case tc_g_altered_clashes => k_is); (case tk_g_altered_clashes => k_is)))
    (case g_row_clashes => (refine' Tw.gf_in ?ta_g_row_clashes ?tl_g_row_clashes ?tc_g_row_clashes ?tk_g_row_clashes; (case ta_g_row_clashes => k_is); (case tl_g_row_clashes => k_is); (case tc_g_row_clashes => k_is); (case tk_g_row_clashes => k_is)))
    (case g_find_clashes => (refine' Tw.gf_in ?ta_g_find_clashes ?tl_g_find_clashes ?tc_g_find_clashes ?tk_g_find_clashes; (case ta_g_find_clashes => k_is); (case tl_g_find_clashes => k_is); (case tc_g_find_clashes => k_is); (case tk_g_find_clashes => k_is)))
    (case g_changed_rows => (refine' Tw.gf_in ?ta_g_changed_rows ?tl_g_changed_rows ?tc_g_changed_rows ?tk_g_changed_rows; (case ta_g_changed_rows => k_is); (case tl_g_changed_rows => k_is); (case tc_g_changed_rows => k_is); (case tk_g_changed_rows => k_is)))
    (case g_merged_one => (refine' Tw.gf_in ?ta_g_merged_one ?tl_g_merged_one ?tc_g_merged_one ?tk_g_merged_one; (case ta_g_merged_one => k_is); (case tl_g_merged_one => k_is); (case tc_g_merged_one => k_is); (case tk_g_merged_one => k_is)))
    (case g_merged_fields => (refine' Tw.gf_in ?ta_g_merged_fields ?tl_g_merged_fields ?tc_g_merged_fields ?tk_g_merged_fields; (case ta_g_merged_fields => k_is); (case tl_g_merged_fields => k_is); (case tc_g_merged_fields => k_is); (case tk_g_merged_fields => k_is)))
    (case g_merged_row => (refine' Tw.gf_in ?ta_g_merged_row ?tl_g_merged_row ?tc_g_merged_row ?tk_g_merged_row; (case ta_g_merged_row => k_is); (case tl_g_merged_row => k_is); (case tc_g_merged_row => k_is); (case tk_g_merged_row => k_is)))
    (case g_merged_tables => (refine' Tw.gf_in ?ta_g_merged_tables ?tl_g_merged_tables ?tc_g_merged_tables ?tk_g_merged_tables; (case ta_g_merged_tables => k_is); (case tl_g_merged_tables => k_is); (case tc_g_merged_tables => k_is); (case tk_g_merged_tables => k_is)))
    (case g_choices_by_row => (refine' Tw.gf_in ?ta_g_choices_by_row ?tl_g_choices_by_row ?tc_g_choices_by_row ?tk_g_choices_by_row; (case ta_g_choices_by_row => k_is); (case tl_g_choices_by_row => k_is); (case tc_g_choices_by_row => k_is); (case tk_g_choices_by_row => k_is)))
    (case g_numbers_of => (refine' Tw.gf_in ?ta_g_numbers_of ?tl_g_numbers_of ?tc_g_numbers_of ?tk_g_numbers_of; (case ta_g_numbers_of => k_is); (case tl_g_numbers_of => k_is); (case tc_g_numbers_of => k_is); (case tk_g_numbers_of => k_is)))
    (case g_first_unfit => (refine' Tw.gf_in ?ta_g_first_unfit ?tl_g_first_unfit ?tc_g_first_unfit ?tk_g_first_unfit; (case ta_g_first_unfit => k_is); (case tl_g_first_unfit => k_is); (case tc_g_first_unfit => k_is); (case tk_g_first_unfit => k_is)))
    (case g_counted => (refine' Tw.gf_in ?ta_g_counted ?tl_g_counted ?tc_g_counted ?tk_g_counted; (case ta_g_counted => k_is); (case tl_g_counted => k_is); (case tc_g_counted => k_is); (case tk_g_counted => k_is)))
    (case g_Held_changed_by => (refine' Tw.mf_in ?ta_g_Held_changed_by ?tl_g_Held_changed_by ?tc_g_Held_changed_by ?tk_g_Held_changed_by ?ti_g_Held_changed_by; (case ta_g_Held_changed_by => k_is); (case tl_g_Held_changed_by => k_is); (case tc_g_Held_changed_by => k_is); (case tk_g_Held_changed_by => k_is); (case ti_g_Held_changed_by => k_is)))
    (case g_Held_clashes_of => (refine' Tw.mf_in ?ta_g_Held_clashes_of ?tl_g_Held_clashes_of ?tc_g_Held_clashes_of ?tk_g_Held_clashes_of ?ti_g_Held_clashes_of; (case ta_g_Held_clashes_of => k_is); (case tl_g_Held_clashes_of => k_is); (case tc_g_Held_clashes_of => k_is); (case tk_g_Held_clashes_of => k_is); (case ti_g_Held_clashes_of => k_is)))
    (case g_Held_changed => (refine' Tw.mf_in ?ta_g_Held_changed ?tl_g_Held_changed ?tc_g_Held_changed ?tk_g_Held_changed ?ti_g_Held_changed; (case ta_g_Held_changed => k_is); (case tl_g_Held_changed => k_is); (case tc_g_Held_changed => k_is); (case tk_g_Held_changed => k_is); (case ti_g_Held_changed => k_is)))
    (case g_Held_clashes => (refine' Tw.mf_in ?ta_g_Held_clashes ?tl_g_Held_clashes ?tc_g_Held_clashes ?tk_g_Held_clashes ?ti_g_Held_clashes; (case ta_g_Held_clashes => k_is); (case tl_g_Held_clashes => k_is); (case tc_g_Held_clashes => k_is); (case tk_g_Held_clashes => k_is); (case ti_g_Held_clashes => k_is)))
    (case g_Held_begin_with => (refine' Tw.mf_in ?ta_g_Held_begin_with ?tl_g_Held_begin_with ?tc_g_Held_begin_with ?tk_g_Held_begin_with ?ti_g_Held_begin_with; (case ta_g_Held_begin_with => k_is); (case tl_g_Held_begin_with => k_is); (case tc_g_Held_begin_with => k_is); (case tk_g_Held_begin_with => k_is); (case ti_g_Held_begin_with => k_is)))
    (case g_Held_init => (refine' Tw.if_in ?ta_g_Held_init ?tl_g_Held_init ?tc_g_Held_init ?tk_g_Held_init ?ti_g_Held_init ?tm_g_Held_init ?tn_g_Held_init; (case ta_g_Held_init => k_is); (case tl_g_Held_init => k_is); (case tc_g_Held_init => k_is); (case tk_g_Held_init => k_is); (case ti_g_Held_init => k_is); (case tm_g_Held_init => k_is); (case tn_g_Held_init => k_is)))
    (case g_Held_judge_tables => (refine' Tw.mf_in ?ta_g_Held_judge_tables ?tl_g_Held_judge_tables ?tc_g_Held_judge_tables ?tk_g_Held_judge_tables ?ti_g_Held_judge_tables; (case ta_g_Held_judge_tables => k_is); (case tl_g_Held_judge_tables => k_is); (case tc_g_Held_judge_tables => k_is); (case tk_g_Held_judge_tables => k_is); (case ti_g_Held_judge_tables => k_is)))
    (case g_Held_fill => (refine' Tw.mf_in ?ta_g_Held_fill ?tl_g_Held_fill ?tc_g_Held_fill ?tk_g_Held_fill ?ti_g_Held_fill; (case ta_g_Held_fill => k_is); (case tl_g_Held_fill => k_is); (case tc_g_Held_fill => k_is); (case tk_g_Held_fill => k_is); (case ti_g_Held_fill => k_is)))
    (case g_Held_set_own => (refine' Tw.mf_in ?ta_g_Held_set_own ?tl_g_Held_set_own ?tc_g_Held_set_own ?tk_g_Held_set_own ?ti_g_Held_set_own; (case ta_g_Held_set_own => k_is); (case tl_g_Held_set_own => k_is); (case tc_g_Held_set_own => k_is); (case tk_g_Held_set_own => k_is); (case ti_g_Held_set_own => k_is)))
    (case g_Held_load => (refine' Tw.mf_in ?ta_g_Held_load ?tl_g_Held_load ?tc_g_Held_load ?tk_g_Held_load ?ti_g_Held_load; (case ta_g_Held_load => k_is); (case tl_g_Held_load => k_is); (case tc_g_Held_load => k_is); (case tk_g_Held_load => k_is); (case ti_g_Held_load => k_is)))
    (case g_Held_written => (refine' Tw.mf_in ?ta_g_Held_written ?tl_g_Held_written ?tc_g_Held_written ?tk_g_Held_written ?ti_g_Held_written; (case ta_g_Held_written => k_is); (case tl_g_Held_written => k_is); (case tc_g_Held_written => k_is); (case tk_g_Held_written => k_is); (case ti_g_Held_written => k_is)))
    (case g_Held_tables => (refine' Tw.mf_in ?ta_g_Held_tables ?tl_g_Held_tables ?tc_g_Held_tables ?tk_g_Held_tables ?ti_g_Held_tables; (case ta_g_Held_tables => k_is); (case tl_g_Held_tables => k_is); (case tc_g_Held_tables => k_is); (case tk_g_Held_tables => k_is); (case ti_g_Held_tables => k_is)))
    (case g_Held_size => (refine' Tw.mf_in ?ta_g_Held_size ?tl_g_Held_size ?tc_g_Held_size ?tk_g_Held_size ?ti_g_Held_size; (case ta_g_Held_size => k_is); (case tl_g_Held_size => k_is); (case tc_g_Held_size => k_is); (case tk_g_Held_size => k_is); (case ti_g_Held_size => k_is)))
    (case g_Held_merge => (refine' Tw.mf_in ?ta_g_Held_merge ?tl_g_Held_merge ?tc_g_Held_merge ?tk_g_Held_merge ?ti_g_Held_merge; (case ta_g_Held_merge => k_is); (case tl_g_Held_merge => k_is); (case tc_g_Held_merge => k_is); (case tk_g_Held_merge => k_is); (case ti_g_Held_merge => k_is)))
    (case g_Held_merged => (refine' Tw.mf_in ?ta_g_Held_merged ?tl_g_Held_merged ?tc_g_Held_merged ?tk_g_Held_merged ?ti_g_Held_merged; (case ta_g_Held_merged => k_is); (case tl_g_Held_merged => k_is); (case tc_g_Held_merged => k_is); (case tk_g_Held_merged => k_is); (case ti_g_Held_merged => k_is)))
    (case g_Held_commit => (refine' Tw.mf_in ?ta_g_Held_commit ?tl_g_Held_commit ?tc_g_Held_commit ?tk_g_Held_commit ?ti_g_Held_commit; (case ta_g_Held_commit => k_is); (case tl_g_Held_commit => k_is); (case tc_g_Held_commit => k_is); (case tk_g_Held_commit => k_is); (case ti_g_Held_commit => k_is)))
    (case g_Held_refresh => (refine' Tw.mf_in ?ta_g_Held_refresh ?tl_g_Held_refresh ?tc_g_Held_refresh ?tk_g_Held_refresh ?ti_g_Held_refresh; (case ta_g_Held_refresh => k_is); (case tl_g_Held_refresh => k_is); (case tc_g_Held_refresh => k_is); (case tk_g_Held_refresh => k_is); (case ti_g_Held_refresh => k_is)))
    (case g_Held_twin => (refine' Tw.mf_in ?ta_g_Held_twin ?tl_g_Held_twin ?tc_g_Held_twin ?tk_g_Held_twin ?ti_g_Held_twin; (case ta_g_Held_twin => k_is); (case tl_g_Held_twin => k_is); (case tc_g_Held_twin => k_is); (case tk_g_Held_twin => k_is); (case ti_g_Held_twin => k_is)))
    (case g_Held_store_behind => (refine' Tw.mf_in ?ta_g_Held_store_behind ?tl_g_Held_store_behind ?tc_g_Held_store_behind ?tk_g_Held_store_behind ?ti_g_Held_store_behind; (case ta_g_Held_store_behind => k_is); (case tl_g_Held_store_behind => k_is); (case tc_g_Held_store_behind => k_is); (case tk_g_Held_store_behind => k_is); (case ti_g_Held_store_behind => k_is)))
    (case g_Held_orders => (refine' Tw.mf_in ?ta_g_Held_orders ?tl_g_Held_orders ?tc_g_Held_orders ?tk_g_Held_orders ?ti_g_Held_orders; (case ta_g_Held_orders => k_is); (case tl_g_Held_orders => k_is); (case tc_g_Held_orders => k_is); (case tk_g_Held_orders => k_is); (case ti_g_Held_orders => k_is)))
    (case g_answer_call => (refine' Tw.gf_in ?ta_g_answer_call ?tl_g_answer_call ?tc_g_answer_call ?tk_g_answer_call; (case ta_g_answer_call => k_is); (case tl_g_answer_call => k_is); (case tc_g_answer_call => k_is); (case tk_g_answer_call => k_is)))
    (case g_read_calls => (refine' Tw.gf_in ?ta_g_read_calls ?tl_g_read_calls ?tc_g_read_calls ?tk_g_read_calls; (case ta_g_read_calls => k_is); (case tl_g_read_calls => k_is); (case tc_g_read_calls => k_is); (case tk_g_read_calls => k_is)))
    (case g_answers => (refine' Tw.gf_in ?ta_g_answers ?tl_g_answers ?tc_g_answers ?tk_g_answers; (case ta_g_answers => k_is); (case tl_g_answers => k_is); (case tc_g_answers => k_is); (case tk_g_answers => k_is)))
  case S =>
    intro K H xs a hO hwi hask hx
    cases hx with
    | cons h1 h2 =>
      cases h2
      cases h1 with
      | lst hs ha =>
        have e := L2.ints_dw a.1 _ ha
        subst e
        have q : ((Codec.inLen 0 17000 a.1 && a.1.all (Codec.inInt (-1000000000000000000) 1000000000000000000)) && true) = true := hwi
        rw [Bool.and_eq_true, Bool.and_eq_true] at q
        exact ⟨_, a.1, rfl, hs, (Codec.inNat_iff.mp q.1.1).2, hask, fun H' p hp => .lst (L2.SqL.of hp) (L2.dw_ints _)⟩
#print axioms PySem.Challenge.cw_twosessions_s01_answers_holds
