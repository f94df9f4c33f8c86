import PyProof.Rows.All
import Wide.All
import OpenK.AllK
import Wide.FinOn
import HandS.Iter
import KE.GoesEnum
import HandS.ForMost
import HandS.Evl
import HandS.Walk
import HandS.IsInst
import HandS.Wide
import HandS.NoneIn
import HandS.EndBits
import HandS.Codes
import HandS.TupAny
import HandS.TupMul
import HandS.Deep
import PyProof.TupleOfSeq
import PyProof.SeqIndex
import KE.DatumIndex
import PyProof.ReprRoads
import PyProof.CallFns
import HandS.SortInts
import HandS.Zip
import HandS.Star
import HandS.Conv
import KE.KRevSl
import HandS.Flt
import KE.DataCmp
import HandS.Zip0
import HandS.Strs
import HandS.SetFor
import HandS.Dict
import PySem.Challenge.RW_unturned_k07_whole_parts_of_streams
set_option Elab.async false
set_option linter.all false
set_option maxRecDepth 100000
set_option maxHeartbeats 8000000
namespace Un
open PySem PySem.Spec PyProof.Rows L2
/-- enumerate's new pair of cells over whatever begins an iterator -/
theorem meets_enumB {u : Value} {ob : Obj} {Hh : Heap → Prop} (B : Begins u ob Hh) :
    Meets (Builtin.«enumerate.__new__» ⟨[.type "enumerate", u], []⟩) (fun _ R st => Hh st.heap ∧
      R (.ok (.ret (.ref (st.heap.push ob).objs.size))) { st with heap := (st.heap.push ob).push { cls := .type "enumerate", data := .fields #[.none, .bool false, .ref st.heap.objs.size, rawInt 0, .none, .none] } }) :=
  .of_wp fun prog w A R st hh => by
    obtain ⟨hp, gn, dr, tk, os⟩ := st
    obtain ⟨hu, hh⟩ := hh
    have hsub := sub_enumerate
    have it1 : ∀ {A' : Around} {E : Value → Shared → Prop} {Q : Value → Shared → Prop}, Q (.ref hp.objs.size) ⟨hp.push ob, gn, dr, tk, os⟩ → wpAny (model prog w) A' (pyIter u) Q E ⟨hp, gn, dr, tk, os⟩ :=
      fun q => B.iter prog w _ _ ⟨hp, gn, dr, tk, os⟩ _ hu q
    wp_walk using it1
    refine wpAny_stack_any fun stk => wpAny_pure ?_
    split
    · rename_i cc _ _ _ _ _
      cases (cc == Value.type "enumerate") <;> (wp_walk using it1; exact ⟨_, rfl, hh⟩)
    · wp_walk using it1
      exact ⟨_, rfl, hh⟩
section
variable {prog : Program} {w : World} {A : Around} {E : Value → Shared → Prop} {s : Shared}
theorem call_enumT {l : Addr} {its : Array Value} {Q : Value → Shared → Prop} (hT : s.heap.IsTuple l its)
    (k : ∀ h', IsEnum h' (s.heap.objs.size + 1) s.heap.objs.size 0 .none → h'.IsTupleIter s.heap.objs.size l 0 →
      (∀ b o, s.heap.get? b = some o → h'.get? b = some o) → Q (.ref (s.heap.objs.size + 1)) { s with heap := h' }) :
    wpAny (model prog w) A (call (.type "enumerate") [.ref l]) Q E s := by
  refine callType_new F.called_enumerate (by decide) (F.typeCall_enumerate_1 _) (F.newCall_enumerate_1 _) (fun obj => F.args_object_init_2 obj _) F.entry_enumerate_new
    (meets_enumB (begins_tuple l its)) ⟨hT, ?_⟩
  have sz : (s.heap.push { cls := .type "tuple_iterator", data := .fields #[.ref l, .int 0 0] }).objs.size = s.heap.objs.size + 1 := Heap.size_push ..
  show _ ∧ _
  rw [sz]
  have en : IsEnum ((s.heap.push { cls := .type "tuple_iterator", data := .fields #[.ref l, .int 0 0] }).push
      { cls := .type "enumerate", data := .fields #[.none, .bool false, .ref s.heap.objs.size, rawInt 0, .none, .none] }) (s.heap.objs.size + 1) s.heap.objs.size 0 .none := by
    have g := Heap.get?_push_size (s.heap.push { cls := .type "tuple_iterator", data := .fields #[.ref l, .int 0 0] })
      (o := { cls := .type "enumerate", data := .fields #[.none, .bool false, .ref s.heap.objs.size, rawInt 0, .none, .none] }) rfl
    rw [sz] at g
    exact g
  exact ⟨⟨_, en, rfl⟩, k _ en ⟨_, Heap.get?_push_of_some _ (Heap.get?_push_size _ rfl), rfl, rfl⟩ fun b o x => Heap.get?_push_of_some _ (Heap.get?_push_of_some _ x)⟩
end
/-- the tuple at a, each item in a new pair with its place -/
def IteT (K : PySem.W.Frag) (a : Addr) : It :=
  ⟨fun i H => ∃ (xs : List V) (x : V), SqT K H a xs ∧ xs[i]? = some x,
   fun i H v H' => ∃ T x, v = .ref T ∧ H T = none ∧ H' = upd H T (.tup [.int (i : Nat), x]) ∧ ∀ xs, SqT K H a xs → xs[i]? = some x,
   fun i H => ∃ xs : List V, SqT K H a xs ∧ xs.length = i⟩
theorem turn_enumT {P : Program} {w : World} {K : PySem.W.Frag} {elts : List Expr} {kk : Nat} {tpos : Pos} (a e it : Addr) (hai : a ≠ it) (hae : a ≠ e) :
    Turn P w K (.Tuple elts kk tpos) (IteT K a) [e, it] e (fun i h => (∃ old, IsEnum h e it ((i : Nat) : Int) old) ∧ h.IsTupleIter it a i ∧ e ≠ it) where
  mem := by simp
  obj := fun i h st b hb => by
    obtain ⟨⟨old, he⟩, ⟨o, ho, hc, hd⟩, _⟩ := st
    have eb : b = e ∨ b = it := by simpa using hb
    rcases eb with z | z
    · subst z
      exact ⟨_, he, fun v q => nomatch q⟩
    · subst z
      exact ⟨o, ho, fun v q => by rw [hd] at q; cases q⟩
  keep := fun i h h' st k => let ⟨⟨old, he⟩, ⟨o, ho, r⟩, hne⟩ := st; ⟨⟨old, k e (by simp) _ he⟩, ⟨o, k it (by simp) o ho, r⟩, hne⟩
  item := by
    intro X hP hw hK hc i pins s σ H E I hf st hg
    subst hP hw hK
    obtain ⟨⟨old, he⟩, hit, hne⟩ := st
    obtain ⟨xs, x, hq, hx⟩ := hg
    obtain ⟨its, rv, p, hz⟩ := I.tuple hq
    obtain ⟨u, hu, ru⟩ := rv.get hx
    have hlt : i < its.toArray.size := by
      have z := (List.getElem?_eq_some_iff.mp hu).1
      simpa using z
    have hel : e < s.heap.objs.size := Heap.lt_size he
    have hil : it < s.heap.objs.size := by
      obtain ⟨_, q, _⟩ := hit
      exact Heap.lt_size q
    have D := Draws.tuple (prog := X.prog) (w := X.w) (A := X.A.in1) (I.ok.hd hc) it a hai its.toArray
    refine wpAny_pyNext_enum_itemC D he ⟨hit, p⟩ hlt hne (by
      intro z
      have z' : e = it ∨ e = a := by simpa using z
      rcases z' with z1 | z1
      · exact hne z1
      · exact hae z1.symm) fun y h' tk hy ho hst' hT hsz hk => ?_
    have eu : y = u := by
      have z : its.toArray[i]? = some y := hy
      have z2 : its[i]? = some y := by simpa using z
      exact Option.some.inj (z2.symm.trans hu)
    subst eu
    refine ⟨_, rfl, wpAny_letOwnedTupleGo_enum (s := { s with heap := h', toks := tk + 1 }) ho fun h'' he' sb => ?_⟩
    have hT2 : h''.get? s.heap.objs.size = some { cls := .type "tuple", data := .seq #[.int i tk, y] } := (sb.2 _ (Nat.ne_of_gt hel)).trans hT
    have new : ObjOk X.prog X.w (upd H s.heap.objs.size (.tup [.int (i : Nat), x])) h'' s.heap.objs.size (.tup [.int (i : Nat), x]) :=
      ⟨by show 2 ≤ sizeLine; decide, [.int i tk, y], .cons ⟨_, rfl⟩ (.cons ru .nil), ⟨_, hT2, rfl, _, rfl⟩⟩
    have I1 : Inv X pins σ (upd H s.heap.objs.size (.tup [.int (i : Nat), x])) { s with heap := h'', toks := tk + 1 } :=
      I.turnedNew (ch := [e, it]) (fun b ob hb q => (sb.2 b (fun z => hb (by simp [z]))).trans (hk b ob (fun z => hb (by simp [z])) (fun z => hb (by simp [z])) q)) hf (Nat.le_refl _) new
    refine ⟨.ref s.heap.objs.size, _, I1, rfl, ⟨_, x, rfl, I.hok.fresh (Nat.le_refl _), rfl, fun ys hy => by rw [I.tuple_inj hy hq]; exact hx⟩, ⟨⟨y, ?_⟩, ?_, hne⟩, fun b hb => ?_⟩
    · have e1 : ((i + 1 : Nat) : Int) = (i : Int) + 1 := by omega
      rw [e1]
      exact he'
    · obtain ⟨⟨o, q, r⟩, _⟩ := hst'
      exact ⟨o, (sb.2 it (Ne.symm hne)).trans q, r⟩
    · have hb' : b < s.heap.objs.size := by
        have eb : b = e ∨ b = it := by simpa using hb
        rcases eb with z | z
        · rw [z]; exact hel
        · rw [z]; exact hil
      rw [upd_ne (Nat.ne_of_lt hb')]
      exact (hf b hb).1
  done := by
    intro X hP hw hK hc i pins s σ H E I hf st hg
    subst hP hw hK
    obtain ⟨⟨old, he⟩, hit, hne⟩ := st
    obtain ⟨xs, hq, hx⟩ := hg
    obtain ⟨its, rv, p, hz⟩ := I.tuple hq
    have hl := rv.length
    have D := Draws.tuple (prog := X.prog) (w := X.w) (A := X.A.in1) (I.ok.hd hc) it a hai its.toArray
    have en : its.toArray.size = i := by
      simp
      omega
    obtain ⟨f0, f1, f2, f3, f4, f5⟩ := hf it (by simp)
    refine wpAny_pyNext_enum_endD D he (en.symm ▸ ⟨hit, p⟩) fun h' eb => ⟨rfl, I.turned (t' := s.toks) (fun b o hb q => eb b o hb q) f0 f1 f3 f4 f5⟩
  self := fun A i s Q E st h => let ⟨⟨_, he⟩, _⟩ := st; wpAny_pyIter_enum he h
def iEnumT (K : PySem.W.Frag) (ta : TA) : TI := fun σ H R => ta σ H fun vs H1 => ∃ a xs, vs = [.ref a] ∧ SqT K H1 a xs ∧ R (IteT K a) H1
theorem pi_enumT {X : Cx} {e : Expr} {ta : TA} {p pos tpos : Pos} {elts : List Expr} {kk : Nat} (hg : Gl X "enumerate") (hm : X.mg "enumerate" = none) (ha : PA X [e] ta)
    (hs : starEach [e] X.env = [(false, eval e X.env)] := by rfl) : PI X (.Tuple elts kk tpos) (.Call (.Name "enumerate" p) [e] [] pos) (iEnumT X.K ta) := by
  refine ⟨fun pins s σ H R I h => ?_⟩
  refine Call_ (ld_blt I hg hm boot_enumerate (PyProof.Rows.callWith_type1 (thn (ha.run pos pins s σ H _ I h) fun us s1 ⟨vs, H1, I1, r1, q1⟩ => ?_) hs rfl))
  obtain ⟨a, xs, ex, hq, q⟩ := q1
  subst ex
  cases r1 with
  | cons r rr =>
    cases rr
    cases r
    obtain ⟨its, rv, pt, hz⟩ := I1.tuple hq
    have hal : a < s1.heap.objs.size := by
      obtain ⟨o, ho, _⟩ := (show s1.heap.IsTuple a its.toArray from pt)
      exact Heap.lt_size ho
    refine call_enumT pt fun h' he hit hk => wpAny_pyIter_enum he ?_
    have I2 : Inv X pins σ H1 { s1 with heap := h' } := I1.kept (t' := s1.toks) hk
    refine ⟨s1.heap.objs.size + 1, [s1.heap.objs.size + 1, s1.heap.objs.size], _, _, H1, rfl, I2,
      turn_enumT a (s1.heap.objs.size + 1) s1.heap.objs.size (Nat.ne_of_lt hal) (Nat.ne_of_lt (Nat.lt_succ_of_lt hal)), ⟨⟨.none, he⟩, hit, Nat.succ_ne_self _⟩, fun b hb => ?_, q⟩
    have hle : s1.heap.objs.size ≤ b := by
      have e' : b = s1.heap.objs.size + 1 ∨ b = s1.heap.objs.size := by simpa using hb
      rcases e' with z | z
      · rw [z]; exact Nat.le_add_right _ _
      · rw [z]; exact Nat.le_refl _
    exact I1.fpOk hle (I1.hok.fresh hle)
end Un

namespace Uv
open PySem PySem.Spec PyProof.Rows L2
open Evl (Ex)
/-! ### tuples whose object is known -/
def Plain (o : Obj) : Prop := o.cls = .type "tuple" ∧ o.dict = none
abbrev fz (o : Obj) (xs : List V) : HO := .frz o (.tup xs)
def tTupF (t : TA) : TE := fun σ H Q => t σ H fun xs H1 => xs.length ≤ sizeLine ∧ ∀ p o, H1 p = none → Plain o → Q (.ref p) (upd H1 p (fz o xs))
theorem pe_tupF {X : Cx} {es : List Expr} {t : TA} {pos : Pos} {x1} (h : PA X es t) : PE X (.Tuple es x1 pos) (tTupF t) := by
  refine ⟨fun pins s σ H Q I hq => ?_⟩
  refine wpAny_Tuple_spliced (thn (h.run pos pins s σ H _ I hq) fun us s1 ⟨xs, H1, I1, r, z, q⟩ => ⟨by rw [← r.length]; exact z, ?_⟩)
  have I2 : Inv X pins σ (upd H1 s1.heap.objs.size (fz { cls := .type "tuple", data := .seq us.toArray } xs)) { s1 with heap := s1.heap.push { cls := .type "tuple", data := .seq us.toArray }, toks := s1.toks } :=
    I1.laid (t' := s1.toks) (fun b u e => Heap.get?_push_of_some _ e) (Nat.le_refl _) (show ObjOk X.prog X.w _ _ _ (.frz _ (.tup xs)) from ⟨Heap.get?_push_size _ rfl, z, us, r, IsTup.new _ _⟩)
  exact ⟨.ref s1.heap.objs.size, _, I2, rfl, q _ _ (I1.hok.fresh (Nat.le_refl _)) ⟨rfl, rfl⟩⟩
/-- tuple(xs) of a list: a new one; of a tuple: itself -/
def rTupF (K : PySem.W.Frag) : List V → Hp → VK → Prop := fun xs H Q => ∃ p ys, xs = [.ref p] ∧ ((SqL K H p ys ∧ ∀ l o, H l = none → Plain o → Q (.ref l) (upd H l (fz o ys))) ∨ (SqT K H p ys ∧ Q (.ref p) H))
theorem cr_tupF {X : Cx} : CallR X (.type "tuple") (rTupF X.K) := by
  intro pins s σ H xs us Q I r h
  obtain ⟨p, ys, rfl, h⟩ := h
  rcases h with ⟨hq, q⟩ | ⟨ht, q⟩
  · obtain ⟨u, rfl, rx⟩ := vals1 r
    cases rx
    obtain ⟨its, r', pl, hz⟩ := I.list hq
    have hlen := r'.length
    refine call_tuple_list pl.isList (fun h' kp => ?_) (by simp only [List.size_toArray] <;> omega)
    have I1 : Inv X pins σ H { s with heap := h' } := I.kept (t' := s.toks) kp
    have I2 : Inv X pins σ (upd H h'.objs.size (fz { cls := .type "tuple", data := .seq its.toArray } ys)) { s with heap := h'.push { cls := .type "tuple", data := .seq its.toArray } } :=
      I1.laid (t' := s.toks) (fun b o e => Heap.get?_push_of_some _ e) (Nat.le_refl _) (show ObjOk X.prog X.w _ _ _ (.frz _ (.tup ys)) from ⟨Heap.get?_push_size _ rfl, hz, its, r', IsTup.new _ _⟩)
    exact ⟨.ref h'.objs.size, _, I2, rfl, q _ _ (I1.hok.fresh (Nat.le_refl _)) ⟨rfl, rfl⟩⟩
  · exact call_tupleT pins s σ H _ us Q I r ⟨p, ys, rfl, ht, q⟩
/-- t + u -/
def rCatF (K : PySem.W.Frag) : R2 := fun x y H Q => ∃ a b xs ys, x = .ref a ∧ y = .ref b ∧ SqT K H a xs ∧ SqT K H b ys ∧ xs.length + ys.length ≤ sizeLine ∧
  (xs = [] → Q (.ref b) H) ∧ (xs ≠ [] → ys = [] → Q (.ref a) H) ∧ (xs ≠ [] → ys ≠ [] → ∀ p o, H p = none → Plain o → Q (.ref p) (upd H p (fz o (xs ++ ys))))
theorem op_catF {X : Cx} : OpR X (binaryOp .Add) (rCatF X.K) := by
  intro pins s σ H x y v u Q I rx ry h
  obtain ⟨a, b, xs, ys, rfl, rfl, ha, hb, hz, q0, q1, q2⟩ := h
  cases rx
  cases ry
  obtain ⟨its, r1, p1, _⟩ := I.tuple ha
  obtain ⟨its2, r2, p2, _⟩ := I.tuple hb
  by_cases hx : xs = []
  · subst hx
    cases r1
    exact cat_tup0 p1 p2 ⟨.ref b, H, I, rfl, q0 rfl⟩
  · refine HT.cat_tup p1 p2 (fun z => hx (r1.nil_iff.mp z)) (fun z => ⟨.ref a, H, I, rfl, q1 hx (r2.nil_iff.mp z)⟩) (fun z => ?_) (by rw [← r1.length, ← r2.length]; exact hz)
    have hy : ys ≠ [] := fun w => z (r2.nil_iff.mpr w)
    have ok := I.laid (t' := s.toks) (o := fz _ (xs ++ ys)) (fun b ob q => Heap.get?_push_of_some _ q) (Nat.le_refl _) (show ObjOk X.prog X.w _ _ _ (.frz _ (.tup (xs ++ ys))) from ⟨Heap.get?_push_size _ rfl, by rw [List.length_append]; exact hz, _, r1.append r2, IsTup.new _ _⟩)
    exact ⟨.ref s.heap.objs.size, _, ok, rfl, q2 hx hy _ _ (I.hok.fresh (Nat.le_refl _)) ⟨rfl, rfl⟩⟩
/-- t[lo:hi] -/
def rSlF (K : PySem.W.Frag) : V → Option Int → Option Int → Hp → VK → Prop := fun x lo hi H Q => ∃ a xs, x = .ref a ∧ SqT K H a xs ∧
  (HT.sIx xs.length 0 lo = 0 ∧ HT.sIx xs.length xs.length hi = xs.length → Q (.ref a) H) ∧ (¬ (HT.sIx xs.length 0 lo = 0 ∧ HT.sIx xs.length xs.length hi = xs.length) → ∀ p o, H p = none → Plain o → Q (.ref p) (upd H p (fz o (cutV xs lo hi))))
theorem sl_tupF {X : Cx} : SlR X (rSlF X.K) := by
  intro pins s σ H x v vl vu lo hi sl Q I rx hs pl pu h
  obtain ⟨a, xs, rfl, hx, q1, q2⟩ := h
  cases rx
  obtain ⟨its, r, ht, hz⟩ := I.tuple hx
  have hlen : its.toArray.size = xs.length := by rw [List.size_toArray]; exact r.length.symm
  refine ⟨"tuple", _, PyProof.Rows.slot_tuple_getitem.lookup, ht.typeIs, ?_⟩
  by_cases hw : HT.sIx xs.length 0 lo = 0 ∧ HT.sIx xs.length xs.length hi = xs.length
  · exact getItem_tuple_whole ht hs pl pu (by rw [hlen]; exact hw) ⟨.ref a, H, I, rfl, q1 hw⟩
  · refine HT.getItem_tuple_cut ht hs pl pu (by rw [hlen]; exact hw) ?_ (by rw [hlen]; exact hz)
    rw [hlen]
    have ok := I.laid (t' := s.toks) (o := fz _ (cutV xs lo hi)) (fun b ob q => Heap.get?_push_of_some _ q) (Nat.le_refl _) (show ObjOk X.prog X.w _ _ _ (.frz _ (.tup (cutV xs lo hi))) from ⟨Heap.get?_push_size _ rfl, Nat.le_trans (cutV_length xs lo hi) hz, _, (r.drop (HT.sIx xs.length 0 lo)).take (HT.sIx xs.length xs.length hi - HT.sIx xs.length 0 lo), IsTup.new _ _⟩)
    exact ⟨.ref s.heap.objs.size, _, ok, rfl, q2 hw _ _ (I.hok.fresh (Nat.le_refl _)) ⟨rfl, rfl⟩⟩
/-- t.index(x) of a tuple of ints or Nones: x in t -/
def rIndexF (K : PySem.W.Frag) : V → List V → Hp → VK → Prop := fun x xs H Q => ∃ (a : Addr) (ns : List Int) (m : Int), x = .ref a ∧ xs = [.int m] ∧ SqT K H a (ns.map V.int) ∧ m ∈ ns ∧ Q (.int (ns.idxOf m : Nat)) H
theorem mt_indexF {X : Cx} (hu : X.A.units + 65 < cLine) : MtR X "tuple.index" (rIndexF X.K) := by
  intro pins s σ H x xs v us Q I rx rxs h
  obtain ⟨a, ns, m, rfl, rfl, hs, hm, q⟩ := h
  cases rx
  obtain ⟨u, rfl, t, rfl⟩ := vals1 rxs
  obtain ⟨its, rv, p, _⟩ := I.tuple hs
  refine PySem.W.index_tuple_datum (xs := ns) (x := m) p ⟨[], rv.ints.reads s.heap⟩ ⟨[], .int m t⟩ (by show X.A.units + 1 + 0 < cLine; omega) hm ?_
  exact ⟨.int _, H, I.tok _, ⟨_, rfl⟩, q⟩
def tBMF (r : V → List V → Hp → VK → Prop) (to : TE) (t : TA) : TE := fun σ H Q => to σ H fun x H1 => (∃ p o u, x = .ref p ∧ H1 p = some (.frz o u) ∧ Plain o) ∧ t σ H1 fun xs H2 => r x xs H2 Q
theorem pe_bmF {X : Cx} {o e : Expr} {es : List Expr} {to : TE} {t : TA} {name : Str} {apos cpos : Pos} {id : String} {r : V → List V → Hp → VK → Prop} (slot : Slot "tuple" name id) (hty : typeOf (.builtin id) = pure (.type "method_descriptor")) (hm : MtR X id r) (ho : PE X o to) (ha : PA X (e :: es) t)
    (hbase : attributeBase o name X.env (eval o X.env) = eval o X.env := by rfl)
    (hfew : ((backTo cpos (starEach (e :: es) X.env)).all (fun x => !x.1) && (backToKw cpos (keywordEach [] X.env)).all (fun x => x.1.isSome)
      && decide ((e :: es).length + ([] : List Keyword).length + (if ([] : List Keyword).isEmpty then 0 else 1) < 30)) = true := by rfl)
    (hline : (apos.endLine == cpos.line) = true := by rfl) (hs : starEach (e :: es) X.env = (false, eval e X.env) :: starEach es X.env := by rfl) (hplain : (backTo cpos (starEach es X.env)).any (·.1) = false := by rfl) :
    PE X (.Call (.Attribute o name apos) (e :: es) [] cpos) (tBMF r to t) := by
  refine ⟨fun pins s σ H Q I h => wpAny_Call_method_late hbase hfew hline rfl (thn (ho.run pins s σ H _ I h) fun v s1 ⟨x, H1, I1, r1, ty, q1⟩ => ?_)⟩
  obtain ⟨p, ob, u, rfl, hp, hc, hd⟩ := ty
  cases r1
  have hg := (I1.hok p _ hp).1
  refine ⟨"tuple", id, PySem.F.plainAttrs_tuple, slot, hty, ⟨ob, hg, hc⟩, fun a e => by cases e; exact ⟨ob, hg, hd⟩, ?_⟩
  have hA := ha.run cpos pins s1 σ H1 _ I1 q1
  rw [hs] at hA ⊢
  refine Calls.callWith_builtin (by show (false || (backTo cpos (starEach es X.env)).any (·.1)) = false; rw [hplain] <;> rfl) (Calls.evalArgs_plain ?_)
  exact thn hA fun us s2 ⟨vs, H2, I2, r2, q2⟩ => hm pins s2 σ H2 (.ref p) vs (.ref p) us Q I2 (show L2.RelV (.ref p) (.ref p) from rfl) r2 q2
theorem u65 {k : Nat} {A : Around} (r : Room k A) : A.units + 65 < cLine := by have := r.un; omega
end Uv

namespace Uv
open PySem PySem.Spec PyProof.Rows L2
open Evl (Ex)
/-- the written part that is in force -/
class KK where
  fr : PySem.W.Frag
abbrev K [kk : KK] : PySem.W.Frag := kk.fr
variable [kk : KK]
abbrev PD := PyData
/-- the script, as data: only len, an index, a slice and a walk are asked of it -/
abbrev scrD (ds : List PD) : PD := .dict [(.none, .list ds)]
theorem sqx {K : PySem.W.Frag} {H H' : Hp} {a : Addr} {xs : List V} (e : Ex H H') (h : SqL K H a xs) : SqL K H' a xs := h.elim (fun r => .inl (r.elim (fun r => .inl (e _ _ r)) fun ⟨o, r⟩ => .inr ⟨o, e _ _ r⟩)) .inr
abbrev Hs := Addr → Prop
/-! ### what is hidden -/
open Classical in
noncomputable def hid (S : Hs) (H : Hp) : Hp := fun x => if S x then none else H x
section
variable {S S' : Hs} {H H' : Hp} {x p : Addr} {o : HO}
theorem hid_in (h : S x) : hid S H x = none := by unfold hid; rw [if_pos h]
theorem hid_out (h : ¬ S x) : hid S H x = H x := by unfold hid; rw [if_neg h]
theorem hid_some (h : hid S H x = some o) : ¬ S x ∧ H x = some o := by
  by_cases c : S x
  · rw [hid_in c] at h; cases h
  · rw [hid_out c] at h; exact ⟨c, h⟩
theorem hid_ex (e : Ex H H') : Ex (hid S H) (hid S H') := fun x o h => by
  obtain ⟨c, h⟩ := hid_some h
  rw [hid_out c]; exact e x o h
theorem hid_le : Ex (hid S H) H := fun x o h => (hid_some h).2
theorem hid_sub (h : ∀ x, S' x → S x) : Ex (hid S H) (hid S' H) := fun x o q => by
  obtain ⟨c, q⟩ := hid_some q
  rw [hid_out fun z => c (h x z)]; exact q
theorem hid_eq (h : ∀ x, S x ↔ S' x) : hid S H = hid S' H := by
  funext x
  by_cases c : S x
  · rw [hid_in c, hid_in ((h x).mp c)]
  · rw [hid_out c, hid_out fun z => c ((h x).mpr z)]
def Al (S : Hs) (H : Hp) : Prop := ∀ x, S x → H x ≠ none
theorem Al.ex (a : Al S H) (e : Ex H H') : Al S H' := fun x hx z => by
  cases q : H x with
  | none => exact a x hx q
  | some o => rw [e x o q] at z; cases z
theorem Al.new (a : Al S H) (hp : H p = none) : ¬ S p := fun z => a p z hp
theorem new_ok (al : Al S H) (hp : H p = none) : hid S (upd H p o) p = some o := by rw [hid_out (al.new hp), upd_same]
theorem hid_cons (e : Ex H H') (hp : H p = none) : Ex (hid S H) (hid (fun x => x = p ∨ S x) H') := fun x o h => by
  obtain ⟨c, h⟩ := hid_some h
  have n : ¬ (x = p ∨ S x) := fun z => z.elim (fun z => by subst z; rw [hp] at h; cases h) c
  rw [hid_out n]; exact e x o h
end
/-! ### data as they stand on the heap -/
mutual
inductive Rp (H : Hp) : V → PD → Prop
  | non : Rp H .non .none
  | bl (b : Bool) : Rp H (.bl b) (.bool b)
  | int (i : Int) : Rp H (.int i) (.int i)
  | str (x : Str) : Rp H (.str x) (.str x)
  | lst {a : Addr} {xs : List V} {ds : List PD} : H a = some (.lst xs) → RpAll H xs ds → Rp H (.ref a) (.list ds)
  | tup {a : Addr} {o : Obj} {xs : List V} {ds : List PD} : H a = some (fz o xs) → Plain o → RpAll H xs ds → Rp H (.ref a) (.tuple ds)
  | dic {a : Addr} : H a = some (.dK []) → Rp H (.ref a) (.dict [])
  | scr {a : Addr} {xs : List V} {ds : List PD} : SqL K H a xs → RpAll H xs ds → Rp H (.ref a) (scrD ds)
inductive RpAll (H : Hp) : List V → List PD → Prop
  | nil : RpAll H [] []
  | cons {v : V} {vs : List V} {d : PD} {ds : List PD} : Rp H v d → RpAll H vs ds → RpAll H (v :: vs) (d :: ds)
end
mutual
theorem Rp.ex {H H' : Hp} (e : Ex H H') : ∀ {v : V} {d : PD}, Rp H v d → Rp H' v d
  | _, _, .non => .non
  | _, _, .bl b => .bl b
  | _, _, .int i => .int i
  | _, _, .str x => .str x
  | _, _, .lst h r => .lst (e _ _ h) (RpAll.ex e r)
  | _, _, .tup h p r => .tup (e _ _ h) p (RpAll.ex e r)
  | _, _, .dic h => .dic (e _ _ h)
  | _, _, .scr h r => .scr (sqx e h) (RpAll.ex e r)
theorem RpAll.ex {H H' : Hp} (e : Ex H H') : ∀ {vs : List V} {ds : List PD}, RpAll H vs ds → RpAll H' vs ds
  | _, _, .nil => .nil
  | _, _, .cons h r => .cons (Rp.ex e h) (RpAll.ex e r)
end
mutual
theorem Rp.dp {H : Hp} : ∀ {v : V} {d : PD}, Rp H v d → d.hasDict = false → Dp K H v d
  | _, _, .non, _ => .non
  | _, _, .bl b, _ => .bl b
  | _, _, .int i, _ => .int i
  | _, _, .str x, _ => .str x
  | _, _, .lst h r, n => .lst (.inl (.inl h)) (RpAll.dp r (by simpa [PyData.hasDict] using n))
  | _, _, .tup h _ r, n => .tup (.inl (.inr ⟨_, h⟩)) (RpAll.dp r (by simpa [PyData.hasDict] using n))
  | _, _, .dic h, n => by simp [PyData.hasDict] at n
  | _, _, .scr h r, n => by simp [PyData.hasDict] at n
theorem RpAll.dp {H : Hp} : ∀ {vs : List V} {ds : List PD}, RpAll H vs ds → PyData.hasDictAll ds = false → DpAll K H vs ds
  | _, _, .nil, _ => .nil
  | _, _, .cons h r, n => by
    simp only [PyData.hasDictAll, Bool.or_eq_false_iff] at n
    exact .cons (Rp.dp h n.1) (RpAll.dp r n.2)
end
section
variable {H : Hp}
theorem RpAll.length : ∀ {vs : List V} {ds : List PD}, RpAll H vs ds → vs.length = ds.length
  | _, _, .nil => rfl
  | _, _, .cons _ r => by rw [List.length_cons, List.length_cons, RpAll.length r]
theorem RpAll.get : ∀ {vs : List V} {ds : List PD} {i : Nat} {d : PD}, RpAll H vs ds → ds[i]? = some d → ∃ v, vs[i]? = some v ∧ Rp H v d
  | _, _, _, _, .nil, e => by simp at e
  | _, _, 0, _, .cons h _, e => by
    simp at e
    subst e
    exact ⟨_, rfl, h⟩
  | _, _, i + 1, d, .cons _ r, e => by
    obtain ⟨v, h1, h2⟩ := RpAll.get (i := i) (d := d) r (by simpa using e)
    exact ⟨v, by simpa using h1, h2⟩
theorem RpAll.append : ∀ {vs ws : List V} {ds es : List PD}, RpAll H vs ds → RpAll H ws es → RpAll H (vs ++ ws) (ds ++ es)
  | _, _, _, _, .nil, s => s
  | _, _, _, _, .cons h r, s => .cons h (RpAll.append r s)
theorem RpAll.drop : ∀ {vs : List V} {ds : List PD} (n : Nat), RpAll H vs ds → RpAll H (vs.drop n) (ds.drop n)
  | _, _, 0, r => by simpa using r
  | _, _, n + 1, .nil => by simpa using RpAll.nil
  | _, _, n + 1, .cons _ r => by simpa using RpAll.drop n r
theorem RpAll.take : ∀ {vs : List V} {ds : List PD} (n : Nat), RpAll H vs ds → RpAll H (vs.take n) (ds.take n)
  | _, _, 0, r => by simpa using RpAll.nil
  | _, _, n + 1, .nil => by simpa using RpAll.nil
  | _, _, n + 1, .cons h r => by simpa using RpAll.cons h (RpAll.take n r)
theorem RpAll.at {vs : List V} {ds : List PD} {i : Int} {d : PD} (r : RpAll H vs ds) (h : atI ds i = some d) : ∃ v, atI vs i = some v ∧ Rp H v d := by
  unfold atI at h ⊢
  rw [r.length]
  cases e : ixN ds.length i with
  | none => rw [e] at h; cases h
  | some j =>
    rw [e] at h
    exact r.get (i := j) h
theorem RpAll.set : ∀ {vs : List V} {ds : List PD} {v : V} {d : PD} (n : Nat), RpAll H vs ds → Rp H v d → RpAll H (vs.set n v) (ds.set n d)
  | _, _, _, _, _, .nil, _ => by simpa using RpAll.nil
  | _, _, _, _, 0, .cons _ r, h => by simpa using RpAll.cons h r
  | _, _, _, _, n + 1, .cons h0 r, h => by simpa using RpAll.cons h0 (RpAll.set n r h)
theorem RpAll.rep {vs : List V} {ds : List PD} (r : RpAll H vs ds) : ∀ n, RpAll H (List.replicate n vs).flatten (List.replicate n ds).flatten
  | 0 => .nil
  | n + 1 => by
    rw [List.replicate_succ, List.replicate_succ, List.flatten_cons, List.flatten_cons]
    exact r.append (RpAll.rep r n)
/-- ints as data -/
def unI : List PD → Option (List Int)
  | [] => some []
  | .int i :: r => (unI r).map (i :: ·)
  | _ => none
def unB : List PD → Option (List Bool)
  | [] => some []
  | .bool b :: r => (unB r).map (b :: ·)
  | _ => none
theorem unI_map : ∀ ns : List Int, unI (ns.map PyData.int) = some ns
  | [] => rfl
  | n :: ns => by rw [List.map_cons, unI, unI_map ns]; rfl
theorem unB_map : ∀ ns : List Bool, unB (ns.map PyData.bool) = some ns
  | [] => rfl
  | n :: ns => by rw [List.map_cons, unB, unB_map ns]; rfl
theorem unI_eq : ∀ {ds : List PD} {ns : List Int}, unI ds = some ns → ds = ns.map PyData.int
  | [], ns, h => by cases h; rfl
  | .int i :: r, ns, h => by
    unfold unI at h
    cases q : unI r with
    | none => rw [q] at h; cases h
    | some ms =>
      rw [q] at h
      cases h
      rw [unI_eq q]
      rfl
  | .none :: _, _, h => by cases h
  | .bool _ :: _, _, h => by cases h
  | .str _ :: _, _, h => by cases h
  | .list _ :: _, _, h => by cases h
  | .tuple _ :: _, _, h => by cases h
  | .dict _ :: _, _, h => by cases h
theorem unB_eq : ∀ {ds : List PD} {ns : List Bool}, unB ds = some ns → ds = ns.map PyData.bool
  | [], ns, h => by cases h; rfl
  | .bool i :: r, ns, h => by
    unfold unB at h
    cases q : unB r with
    | none => rw [q] at h; cases h
    | some ms =>
      rw [q] at h
      cases h
      rw [unB_eq q]
      rfl
  | .none :: _, _, h => by cases h
  | .int _ :: _, _, h => by cases h
  | .str _ :: _, _, h => by cases h
  | .list _ :: _, _, h => by cases h
  | .tuple _ :: _, _, h => by cases h
  | .dict _ :: _, _, h => by cases h
theorem RpAll.ints : ∀ {vs : List V} {ns : List Int}, RpAll H vs (ns.map PyData.int) → vs = ns.map V.int
  | _, [], .nil => rfl
  | _, n :: ns, .cons (.int _) r => by rw [RpAll.ints r]; rfl
theorem RpAll.bools : ∀ {vs : List V} {bs : List Bool}, RpAll H vs (bs.map PyData.bool) → vs = bs.map V.bl
  | _, [], .nil => rfl
  | _, n :: ns, .cons (.bl _) r => by rw [RpAll.bools r]; rfl
theorem RpAll.ofInts : ∀ (ns : List Int), RpAll H (ns.map V.int) (ns.map PyData.int)
  | [] => .nil
  | n :: ns => .cons (.int n) (RpAll.ofInts ns)
end
/-! ### slots -/
abbrev VE := List (Option PD)
def En (H : Hp) (σ : L2.St) (ρ : VE) : Prop := σ.length = ρ.length ∧ ∀ (i : Nat) (d : PD), ρ[i]? = some (some d) → ∃ v, σ[i]? = some (some v) ∧ Rp H v d
section
variable {H H' : Hp} {σ : L2.St} {ρ : VE}
theorem En.ex (h : En H σ ρ) (e : Ex H H') : En H' σ ρ := ⟨h.1, fun i d hi => let ⟨v, h1, h2⟩ := h.2 i d hi; ⟨v, h1, h2.ex e⟩⟩
theorem En.set (h : En H σ ρ) (j : Nat) {v : V} {d : PD} (hr : Rp H v d) : En H (σ.set j (some v)) (ρ.set j (some d)) := by
  refine ⟨by rw [List.length_set, List.length_set]; exact h.1, fun i q hi => ?_⟩
  by_cases c : j = i
  · subst c
    have hl : j < ρ.length := by
      have := (List.getElem?_eq_some_iff.mp hi).1
      simpa using this
    rw [List.getElem?_set_self hl] at hi
    cases hi
    exact ⟨v, List.getElem?_set_self (by rw [h.1]; exact hl), hr⟩
  · rw [List.getElem?_set_ne c] at hi
    rw [List.getElem?_set_ne c]
    exact h.2 i q hi
theorem En.clear (h : En H σ ρ) (j : Nat) (o : Option V) : En H (σ.set j o) (ρ.set j none) := by
  refine ⟨by rw [List.length_set, List.length_set]; exact h.1, fun i q hi => ?_⟩
  by_cases c : j = i
  · subst c
    have hl : j < ρ.length := by
      have := (List.getElem?_eq_some_iff.mp hi).1
      simpa using this
    rw [List.getElem?_set_self hl] at hi
    cases hi
  · rw [List.getElem?_set_ne c] at hi
    rw [List.getElem?_set_ne c]
    exact h.2 i q hi
theorem en_nil : En H [] [] := ⟨rfl, fun i r h => by simp at h⟩
theorem en_cons {o : Option V} {r : Option PD} (h : ∀ d, r = some d → ∃ v, o = some v ∧ Rp H v d) (t : En H σ ρ) : En H (o :: σ) (r :: ρ) := by
  refine ⟨by rw [List.length_cons, List.length_cons, t.1], fun i q hi => ?_⟩
  cases i with
  | zero =>
    have e : r = some q := by simpa using hi
    obtain ⟨v, e2, rv⟩ := h q e
    exact ⟨v, by rw [e2]; rfl, rv⟩
  | succ i => exact t.2 i q (by simpa using hi)
theorem en_none : ∀ n : Nat, En H (List.replicate n none) (List.replicate n none)
  | 0 => en_nil
  | n + 1 => by
    rw [List.replicate_succ, List.replicate_succ]
    exact en_cons (fun d h => nomatch h) (en_none n)
theorem en_args {n : Nat} : ∀ {vs : List V} {ds : List PD}, RpAll H vs ds → En H (vs.map some ++ List.replicate n none) (ds.map some ++ List.replicate n none)
  | _, _, .nil => en_none n
  | _, _, .cons h t => en_cons (fun d e => by cases e; exact ⟨_, rfl, h⟩) (en_args t)
end
/-! ### pure readings -/
def Ed (te : TE) (ρ : VE) (d : PD) : Prop := ∀ S σ H, Al S H → En (hid S H) σ ρ → ∀ Q : VK, (∀ v H2, Ex H H2 → Rp (hid S H2) v d → Q v H2) → te σ H Q
def Et (tt : TT) (ρ : VE) (b : Bool) : Prop := ∀ S σ H, Al S H → En (hid S H) σ ρ → ∀ Q : Bool → Hp → Prop, (∀ H2, Ex H H2 → Q b H2) → tt σ H Q
def Ea (ta : TA) (ρ : VE) (ds : List PD) : Prop := ∀ S σ H, Al S H → En (hid S H) σ ρ → ∀ Q : List V → Hp → Prop, (∀ vs H2, Ex H H2 → RpAll (hid S H2) vs ds → Q vs H2) → ta σ H Q
def Ro (r : R2) (x y z : PD) : Prop := ∀ S H vx vy, Al S H → Rp (hid S H) vx x → Rp (hid S H) vy y → ∀ Q : VK, (∀ v H2, Ex H H2 → Rp (hid S H2) v z → Q v H2) → r vx vy H Q
def Ru (r : V → Hp → VK → Prop) (x z : PD) : Prop := ∀ S H vx, Al S H → Rp (hid S H) vx x → ∀ Q : VK, (∀ v H2, Ex H H2 → Rp (hid S H2) v z → Q v H2) → r vx H Q
def Rc (r : List V → Hp → VK → Prop) (xs : List PD) (z : PD) : Prop := ∀ S H vs, Al S H → RpAll (hid S H) vs xs → ∀ Q : VK, (∀ v H2, Ex H H2 → Rp (hid S H2) v z → Q v H2) → r vs H Q
abbrev XE := VE → Option PD
abbrev XT := VE → Option Bool
abbrev XA := VE → Option (List PD)
def SE (te : TE) (x : XE) : Prop := ∀ ρ d, x ρ = some d → Ed te ρ d
def ST (tt : TT) (x : XT) : Prop := ∀ ρ b, x ρ = some b → Et tt ρ b
def SA (ta : TA) (x : XA) : Prop := ∀ ρ ds, x ρ = some ds → Ea ta ρ ds
def SO (r : R2) (f : PD → PD → Option PD) : Prop := ∀ x y z, f x y = some z → Ro r x y z
def SU (r : V → Hp → VK → Prop) (f : PD → Option PD) : Prop := ∀ x z, f x = some z → Ru r x z
def SC (r : List V → Hp → VK → Prop) (f : List PD → Option PD) : Prop := ∀ xs z, f xs = some z → Rc r xs z
theorem bind_some {α β : Type} {a : Option α} {f : α → Option β} {z : β} (h : a.bind f = some z) : ∃ x, a = some x ∧ f x = some z := by
  cases a with
  | none => cases h
  | some x => exact ⟨x, rfl, h⟩
def xVar (i : Nat) : XE := fun ρ => (ρ[i]?).bind id
def xC (d : PD) : XE := fun _ => some d
def xOp (f : PD → PD → Option PD) (a b : XE) : XE := fun ρ => (a ρ).bind fun x => (b ρ).bind fun y => f x y
def xUn (f : PD → Option PD) (a : XE) : XE := fun ρ => (a ρ).bind f
def xNil : XA := fun _ => some []
def xCons (a : XE) (as : XA) : XA := fun ρ => (a ρ).bind fun x => (as ρ).bind fun xs => some (x :: xs)
def xTup (as : XA) : XE := fun ρ => (as ρ).bind fun ds => if ds.length ≤ 100000 then some (.tuple ds) else none
def xLst (as : XA) : XE := fun ρ => (as ρ).bind fun ds => if ds.length ≤ 100000 then some (.list ds) else none
def xCB (f : List PD → Option PD) (as : XA) : XE := fun ρ => (as ρ).bind f
def isB : PD → Option Bool
  | .bool b => some b
  | _ => none
theorem isB_eq {d : PD} {b : Bool} (h : isB d = some b) : d = .bool b := by
  cases d with
  | bool c => cases h; rfl
  | _ => cases h
def xB (a : XE) : XT := fun ρ => (a ρ).bind isB
def xTAnd (a b : XT) : XT := fun ρ => (a ρ).bind fun c => if c = true then b ρ else some false
def xTOr (a b : XT) : XT := fun ρ => (a ρ).bind fun c => if c = true then some true else b ρ
def xTNot (a : XT) : XT := fun ρ => (a ρ).bind fun c => some (!c)
def xYes : XT := fun _ => some true
def xAnd (a b : XE) : XE := fun ρ => ((a ρ).bind isB).bind fun c => if c = true then b ρ else some (.bool false)
def xOr (a b : XE) : XE := fun ρ => ((a ρ).bind isB).bind fun c => if c = true then some (.bool true) else b ρ
def xNot (a : XE) : XE := fun ρ => ((a ρ).bind isB).bind fun c => some (.bool (!c))
def xIf (c : XT) (a b : XE) : XE := fun ρ => (c ρ).bind fun k => if k = true then a ρ else b ρ
def xChain (f g : PD → PD → Option PD) (a b c : XE) : XE := fun ρ => (a ρ).bind fun x => (b ρ).bind fun y => ((f x y).bind isB).bind fun k => if k = true then (c ρ).bind fun z => g y z else some (.bool false)
section
variable {ta tb tc te : TE} {t u : TT} {ts : TA} {a b c x : XE} {p q : XT} {as : XA} {r r' : R2} {f g : PD → PD → Option PD}
theorem se_var {i : Nat} : SE (tVar i) (xVar i) := fun ρ d h S σ H _ en Q q => by
  obtain ⟨o, h1, h2⟩ := bind_some h
  cases h2
  obtain ⟨v, e, rv⟩ := en.2 i d h1
  exact ⟨v, e, q v H (Ex.refl H) rv⟩
theorem se_int {i : Int} : SE (tC (.int i)) (xC (.int i)) := fun ρ d h S σ H _ _ Q q => by cases h; exact q _ H (Ex.refl H) (.int i)
theorem se_bl {b : Bool} : SE (tC (.bl b)) (xC (.bool b)) := fun ρ d h S σ H _ _ Q q => by cases h; exact q _ H (Ex.refl H) (.bl b)
theorem se_non : SE (tC .non) (xC .none) := fun ρ d h S σ H _ _ Q q => by cases h; exact q _ H (Ex.refl H) .non
theorem se_str {s : Str} : SE (tC (.str s)) (xC (.str s)) := fun ρ d h S σ H _ _ Q q => by cases h; exact q _ H (Ex.refl H) (.str s)
theorem se_op (hr : SO r f) (ha : SE ta a) (hb : SE tb b) : SE (tOp r ta tb) (xOp f a b) := fun ρ d h S σ H al en Q q => by
  obtain ⟨x, h1, h⟩ := bind_some h
  obtain ⟨y, h2, h⟩ := bind_some h
  exact ha ρ x h1 S σ H al en _ fun vx H1 e1 rx => hb ρ y h2 S σ H1 (al.ex e1) (en.ex (hid_ex e1)) _ fun vy H2 e2 ry =>
    hr x y d h S H2 vx vy ((al.ex e1).ex e2) (rx.ex (hid_ex e2)) ry Q fun v H3 e3 rv => q v H3 ((e1.trans e2).trans e3) rv
theorem se_un {r : V → Hp → VK → Prop} {f : PD → Option PD} (hr : SU r f) (ha : SE ta a) : SE (tUn r ta) (xUn f a) := fun ρ d h S σ H al en Q q => by
  obtain ⟨x, h1, h⟩ := bind_some h
  exact ha ρ x h1 S σ H al en _ fun vx H1 e1 rx => hr x d h S H1 vx (al.ex e1) rx Q fun v H3 e3 rv => q v H3 (e1.trans e3) rv
theorem sa_nil : SA tNil xNil := fun ρ ds h S σ H _ _ Q q => by cases h; exact q [] H (Ex.refl H) .nil
theorem sa_cons (ha : SE ta a) (hs : SA ts as) : SA (tCons ta ts) (xCons a as) := fun ρ ds h S σ H al en Q q => by
  obtain ⟨x, h1, h⟩ := bind_some h
  obtain ⟨xs, h2, h⟩ := bind_some h
  cases h
  exact ha ρ x h1 S σ H al en _ fun v H1 e1 rv => hs ρ xs h2 S σ H1 (al.ex e1) (en.ex (hid_ex e1)) _ fun vs H2 e2 rs => q (v :: vs) H2 (e1.trans e2) (.cons (rv.ex (hid_ex e2)) rs)
theorem se_tup (hs : SA ts as) : SE (tTupF ts) (xTup as) := fun ρ d h S σ H al en Q q => by
  obtain ⟨ds, h1, h⟩ := bind_some h
  by_cases hl : ds.length ≤ 100000
  · rw [if_pos hl] at h
    cases h
    refine hs ρ ds h1 S σ H al en _ fun vs H1 e1 ra => ⟨by rw [ra.length]; exact Evl.sz_of hl, fun p o hp pl => q _ _ (e1.trans (Ex.new hp)) (.tup (new_ok (al.ex e1) hp) pl (ra.ex (hid_ex (Ex.new hp))))⟩
  · rw [if_neg hl] at h; cases h
theorem se_lst (hs : SA ts as) : SE (tLst ts) (xLst as) := fun ρ d h S σ H al en Q q => by
  obtain ⟨ds, h1, h⟩ := bind_some h
  by_cases hl : ds.length ≤ 100000
  · rw [if_pos hl] at h
    cases h
    refine hs ρ ds h1 S σ H al en _ fun vs H1 e1 ra => ⟨by rw [ra.length]; exact Evl.sz_of hl, fun p hp => q _ _ (e1.trans (Ex.new hp)) (.lst (new_ok (al.ex e1) hp) (ra.ex (hid_ex (Ex.new hp))))⟩
  · rw [if_neg hl] at h; cases h
theorem se_cb {r : List V → Hp → VK → Prop} {f : List PD → Option PD} (hr : SC r f) (hs : SA ts as) : SE (tCB r ts) (xCB f as) := fun ρ d h S σ H al en Q q => by
  obtain ⟨ds, h1, h⟩ := bind_some h
  exact hs ρ ds h1 S σ H al en _ fun vs H1 e1 rv => hr ds d h S H1 vs (al.ex e1) rv Q fun v H2 e2 r2 => q v H2 (e1.trans e2) r2
theorem st_B (ha : SE ta a) : ST (tB ta) (xB a) := fun ρ b h S σ H al en Q q => by
  obtain ⟨x, h1, h⟩ := bind_some h
  have e := isB_eq h
  subst e
  exact ha ρ _ h1 S σ H al en _ fun v H1 e1 rv => by cases rv; exact ⟨b, rfl, q H1 e1⟩
theorem st_test (ha : SE ta a) : ST (tTest ta) (xB a) := fun ρ b h S σ H al en Q q => by
  obtain ⟨x, h1, h⟩ := bind_some h
  have e := isB_eq h
  subst e
  exact ha ρ _ h1 S σ H al en _ fun v H1 e1 rv => by cases rv; exact ⟨b, rfl, q H1 e1⟩
theorem st_yes : ST tYes xYes := fun ρ b h S σ H al en Q q => by cases h; exact q H (Ex.refl H)
theorem st_not (ht : ST t p) : ST (tNot t) (xTNot p) := fun ρ b h S σ H al en Q q => by
  obtain ⟨c, h1, h⟩ := bind_some h
  cases h
  exact ht ρ c h1 S σ H al en _ fun H1 e1 => q H1 e1
theorem st_and (ht : ST t p) (hu : ST u q) : ST (tAnd t u) (xTAnd p q) := fun ρ b h S σ H al en Q k => by
  obtain ⟨c, h1, h⟩ := bind_some h
  refine ht ρ c h1 S σ H al en _ fun H1 e1 => ?_
  cases c with
  | true => exact hu ρ b h S σ H1 (al.ex e1) (en.ex (hid_ex e1)) Q fun H2 e2 => k H2 (e1.trans e2)
  | false => cases h; exact k H1 e1
theorem st_or (ht : ST t p) (hu : ST u q) : ST (tOr t u) (xTOr p q) := fun ρ b h S σ H al en Q k => by
  obtain ⟨c, h1, h⟩ := bind_some h
  refine ht ρ c h1 S σ H al en _ fun H1 e1 => ?_
  cases c with
  | true => cases h; exact k H1 e1
  | false => exact hu ρ b h S σ H1 (al.ex e1) (en.ex (hid_ex e1)) Q fun H2 e2 => k H2 (e1.trans e2)
theorem se_and (ha : SE ta a) (hb : SE tb b) : SE (tAndV ta tb) (xAnd a b) := fun ρ d h S σ H al en Q q => by
  obtain ⟨c, h1, h⟩ := bind_some h
  obtain ⟨x, h0, h1⟩ := bind_some h1
  have e := isB_eq h1
  subst e
  refine ha ρ _ h0 S σ H al en _ fun v H1 e1 rv => ?_
  cases rv
  refine ⟨c, rfl, ?_⟩
  cases c with
  | true => exact hb ρ d h S σ H1 (al.ex e1) (en.ex (hid_ex e1)) Q fun v H2 e2 r2 => q v H2 (e1.trans e2) r2
  | false => cases h; exact q _ H1 e1 (.bl false)
theorem se_or (ha : SE ta a) (hb : SE tb b) : SE (tOrV ta tb) (xOr a b) := fun ρ d h S σ H al en Q q => by
  obtain ⟨c, h1, h⟩ := bind_some h
  obtain ⟨x, h0, h1⟩ := bind_some h1
  have e := isB_eq h1
  subst e
  refine ha ρ _ h0 S σ H al en _ fun v H1 e1 rv => ?_
  cases rv
  refine ⟨c, rfl, ?_⟩
  cases c with
  | true => cases h; exact q _ H1 e1 (.bl true)
  | false => exact hb ρ d h S σ H1 (al.ex e1) (en.ex (hid_ex e1)) Q fun v H2 e2 r2 => q v H2 (e1.trans e2) r2
theorem se_not (ha : SE ta a) : SE (tNotV ta) (xNot a) := fun ρ d h S σ H al en Q q => by
  obtain ⟨c, h1, h⟩ := bind_some h
  obtain ⟨x, h0, h1⟩ := bind_some h1
  have e := isB_eq h1
  subst e
  cases h
  refine ha ρ _ h0 S σ H al en _ fun v H1 e1 rv => ?_
  cases rv
  exact ⟨c, rfl, q _ H1 e1 (.bl _)⟩
theorem se_if (ht : ST t p) (ha : SE ta a) (hb : SE tb b) : SE (tIf t ta tb) (xIf p a b) := fun ρ d h S σ H al en Q q => by
  obtain ⟨c, h1, h⟩ := bind_some h
  refine ht ρ c h1 S σ H al en _ fun H1 e1 => ?_
  cases c with
  | true => exact ha ρ d h S σ H1 (al.ex e1) (en.ex (hid_ex e1)) Q fun v H2 e2 r2 => q v H2 (e1.trans e2) r2
  | false => exact hb ρ d h S σ H1 (al.ex e1) (en.ex (hid_ex e1)) Q fun v H2 e2 r2 => q v H2 (e1.trans e2) r2
theorem se_chain (hr : SO r f) (hr' : SO r' g) (ha : SE ta a) (hb : SE tb b) (hc : SE tc c) : SE (tChain r r' ta tb tc) (xChain f g a b c) := fun ρ d h S σ H al en Q q => by
  obtain ⟨x, h1, h⟩ := bind_some h
  obtain ⟨y, h2, h⟩ := bind_some h
  obtain ⟨k, h3, h⟩ := bind_some h
  obtain ⟨w, h3, h4⟩ := bind_some h3
  have e := isB_eq h4
  subst e
  refine ha ρ x h1 S σ H al en _ fun vx H1 e1 rx => hb ρ y h2 S σ H1 (al.ex e1) (en.ex (hid_ex e1)) _ fun vy H2 e2 ry => hr x y _ h3 S H2 vx vy ((al.ex e1).ex e2) (rx.ex (hid_ex e2)) ry _ fun v H3 e3 rv => ?_
  cases rv
  refine ⟨k, rfl, ?_⟩
  have e13 := (e1.trans e2).trans e3
  cases k with
  | true =>
    obtain ⟨z, h5, h⟩ := bind_some h
    refine iteT (hc ρ z h5 S σ H3 (al.ex e13) (en.ex (hid_ex e13)) _ fun vz H4 e4 rz => ?_)
    exact hr' y z d h S H4 vy vz ((al.ex e13).ex e4) (ry.ex ((hid_ex e3).trans (hid_ex e4))) rz Q fun w H5 e5 rw' => q w H5 ((e13.trans e4).trans e5) rw'
  | false => cases h; exact iteF (q _ H3 e13 (.bl false))
/-! a weaker reading: one of two -/
theorem se_inl {ta tb : TE} (h : SE ta a) : SE (fun σ H Q => ta σ H Q ∨ tb σ H Q) a := fun ρ d e S σ H al en Q q => .inl (h ρ d e S σ H al en Q q)
end
end Uv

namespace Uv
open PySem PySem.Spec PyProof.Rows L2
open Evl (Ex)
variable [kk : KK]
/-! ### one rule of two -/
theorem OpR.or {X : Cx} {f : Value → Value → Sem Value} {r r' : R2} (h : OpR X f r) (h' : OpR X f r') : OpR X f (fun x y H Q => r x y H Q ∨ r' x y H Q) := fun pins s σ H x y v u Q I rx ry q =>
  q.elim (h pins s σ H x y v u Q I rx ry) (h' pins s σ H x y v u Q I rx ry)
theorem CallR.or {X : Cx} {f : Value} {r r' : List V → Hp → VK → Prop} (h : CallR X f r) (h' : CallR X f r') : CallR X f (fun xs H Q => r xs H Q ∨ r' xs H Q) := fun pins s σ H xs us Q I rx q =>
  q.elim (h pins s σ H xs us Q I rx) (h' pins s σ H xs us Q I rx)
theorem SlR.or {X : Cx} {r r' : V → Option Int → Option Int → Hp → VK → Prop} (h : SlR X r) (h' : SlR X r') : SlR X (fun x lo hi H Q => r x lo hi H Q ∨ r' x lo hi H Q) := fun pins s σ H x v vl vu lo hi sl Q I rx hs pl pu q =>
  q.elim (h pins s σ H x v vl vu lo hi sl Q I rx hs pl pu) (h' pins s σ H x v vl vu lo hi sl Q I rx hs pl pu)
theorem PE.or {X : Cx} {e : Expr} {t u : TE} (h : PE X e t) (h' : PE X e u) : PE X e (fun σ H Q => t σ H Q ∨ u σ H Q) := ⟨fun pins s σ H Q I q => q.elim (h.run pins s σ H Q I) (h'.run pins s σ H Q I)⟩
theorem PI.or {X : Cx} {tg e : Expr} {t u : TI} (h : PI X tg e t) (h' : PI X tg e u) : PI X tg e (fun σ H Q => t σ H Q ∨ u σ H Q) := ⟨fun pins s σ H Q I q => q.elim (h.run pins s σ H Q I) (h'.run pins s σ H Q I)⟩
/-! ### short names -/
abbrev oSub : R2 := rI0 fun i j => .int (i - j)
abbrev oDivW : R2 := rI CDivW fun i j => .int (i / j)
abbrev oMod : R2 := rI (fun _ j => 0 < j) fun i j => .int (i % j)
abbrev oPow : R2 := rI CPow fun i j => .int (i ^ j.toNat)
abbrev oLt : R2 := rI0 fun i j => .bl (decide (i < j))
abbrev oLe : R2 := rI0 fun i j => .bl (decide (i ≤ j))
abbrev oGt : R2 := rI0 fun i j => .bl (decide (j < i))
abbrev oGe : R2 := rI0 fun i j => .bl (decide (j ≤ i))
abbrev oIsN : R2 := fun x y H Q => y = .non ∧ Q (.bl (decide (x = .non))) H
abbrev oNotN : R2 := fun x y H Q => y = .non ∧ Q (.bl (!decide (x = .non))) H
abbrev oNeg : V → Hp → VK → Prop := rU fun i => .int (-i)
abbrev rAbsQ : List V → Hp → VK → Prop := fun xs H Q => ∃ i, xs = [.int i] ∧ Q (.int (if i < 0 then -i else i)) H
abbrev rIntQ : List V → Hp → VK → Prop := fun xs H Q => (∃ i, xs = [.int i] ∧ Q (.int i) H) ∨ ∃ k, xs = [.bl k] ∧ Q (.int (if k then 1 else 0)) H
section
/-! ### + -/
def addP : PD → PD → Option PD
  | .int i, .int j => some (.int (i + j))
  | .list xs, .list ys => if xs.length + ys.length ≤ 100000 then some (.list (xs ++ ys)) else none
  | .tuple xs, .tuple ys => if xs.length + ys.length ≤ 100000 then some (.tuple (xs ++ ys)) else none
  | _, _ => none
def rAddU (K : PySem.W.Frag) : R2 := fun x y H Q => rI0 (fun i j => .int (i + j)) x y H Q ∨ (rCat x y H Q ∨ rCatF K x y H Q)
theorem op_addU {X : Cx} : OpR X (binaryOp .Add) (rAddU X.K) := OpR.or op_add (OpR.or op_cat op_catF)
theorem so_add : SO (rAddU K) addP := fun x y z h S H vx vy al rx ry Q q => by
  cases rx with
  | int i =>
    cases ry with
    | int j =>
      cases h
      exact .inl ⟨i, j, rfl, rfl, q _ H (Ex.refl H) (.int _)⟩
    | _ => cases h
  | @lst a xs ds ha ra =>
    cases ry with
    | @lst b ys es hb rb =>
      have h : (if ds.length + es.length ≤ 100000 then some (PyData.list (ds ++ es)) else none) = some z := h
      by_cases c : ds.length + es.length ≤ 100000
      · rw [if_pos c] at h
        cases h
        refine .inr (.inl ⟨a, b, xs, ys, rfl, rfl, hid_le _ _ ha, hid_le _ _ hb, by rw [ra.length, rb.length]; exact Evl.sz_of c, fun p hp => q _ _ (Ex.new hp) (.lst (new_ok al hp) ((ra.append rb).ex (hid_ex (Ex.new hp))))⟩)
      · rw [if_neg c] at h; cases h
    | _ => cases h
  | @tup a o xs ds ha pa ra =>
    cases ry with
    | @tup b o' ys es hb pb rb =>
      have h : (if ds.length + es.length ≤ 100000 then some (PyData.tuple (ds ++ es)) else none) = some z := h
      by_cases c : ds.length + es.length ≤ 100000
      · rw [if_pos c] at h
        cases h
        refine .inr (.inr ⟨a, b, xs, ys, rfl, rfl, .inl (.inr ⟨_, hid_le _ _ ha⟩), .inl (.inr ⟨_, hid_le _ _ hb⟩), by rw [ra.length, rb.length]; exact Evl.sz_of c, fun e => ?_, fun _ e => ?_, fun _ _ p o hp pl => q _ _ (Ex.new hp) (.tup (new_ok al hp) pl ((ra.append rb).ex (hid_ex (Ex.new hp))))⟩)
        · subst e
          cases ra
          exact q _ H (Ex.refl H) (.tup hb pb rb)
        · subst e
          cases rb
          exact q _ H (Ex.refl H) (by rw [List.append_nil]; exact .tup ha pa ra)
      · rw [if_neg c] at h; cases h
    | _ => cases h
  | _ => cases h
/-! ### numbers -/
def intF (f : Int → Int → Option PD) : PD → PD → Option PD
  | .int i, .int j => f i j
  | _, _ => none
theorem intF_eq {f : Int → Int → Option PD} {x y z : PD} (h : intF f x y = some z) : ∃ i j, x = .int i ∧ y = .int j ∧ f i j = some z := by
  cases x with
  | int i =>
    cases y with
    | int j => exact ⟨i, j, rfl, rfl, h⟩
    | _ => cases h
  | _ => cases h
theorem so_rI {C : Int → Int → Prop} {g : Int → Int → Int} {f : Int → Int → Option PD} (hf : ∀ i j z, f i j = some z → C i j ∧ z = .int (g i j)) : SO (rI C fun i j => .int (g i j)) (intF f) := fun x y z h S H vx vy al rx ry Q q => by
  obtain ⟨i, j, rfl, rfl, h⟩ := intF_eq h
  obtain ⟨h1, rfl⟩ := hf i j z h
  cases rx; cases ry
  exact ⟨i, j, rfl, rfl, h1, q _ H (Ex.refl H) (.int _)⟩
theorem so_rI0 {g : Int → Int → Int} : SO (rI0 fun i j => .int (g i j)) (intF fun i j => some (.int (g i j))) := fun x y z h S H vx vy al rx ry Q q => by
  obtain ⟨i, j, rfl, rfl, h⟩ := intF_eq h
  cases h
  cases rx; cases ry
  exact ⟨i, j, rfl, rfl, q _ H (Ex.refl H) (.int _)⟩
theorem so_rIb {g : Int → Int → Bool} : SO (rI0 fun i j => .bl (g i j)) (intF fun i j => some (.bool (g i j))) := fun x y z h S H vx vy al rx ry Q q => by
  obtain ⟨i, j, rfl, rfl, h⟩ := intF_eq h
  cases h
  cases rx; cases ry
  exact ⟨i, j, rfl, rfl, q _ H (Ex.refl H) (.bl _)⟩
def subP : PD → PD → Option PD := intF fun i j => some (.int (i - j))
def divP : PD → PD → Option PD := intF fun i j => if 0 < j ∧ j < 2 ^ 64 then some (.int (i / j)) else none
def modP : PD → PD → Option PD := intF fun i j => if 0 < j then some (.int (i % j)) else none
def powP : PD → PD → Option PD := intF fun i j => if 0 ≤ j ∧ j ≤ 1000 ∧ -(2 ^ 63) < i ∧ i < 2 ^ 63 then some (.int (i ^ j.toNat)) else none
def ltP : PD → PD → Option PD := intF fun i j => some (.bool (decide (i < j)))
def leP : PD → PD → Option PD := intF fun i j => some (.bool (decide (i ≤ j)))
def gtP : PD → PD → Option PD := intF fun i j => some (.bool (decide (j < i)))
def geP : PD → PD → Option PD := intF fun i j => some (.bool (decide (j ≤ i)))
theorem so_sub : SO oSub subP := so_rI0
theorem so_lt : SO oLt ltP := so_rIb
theorem so_le : SO oLe leP := so_rIb
theorem so_gt : SO oGt gtP := so_rIb
theorem so_ge : SO oGe geP := so_rIb
theorem so_div : SO oDivW divP := so_rI fun i j z h => by
  by_cases c : 0 < j ∧ j < 2 ^ 64
  · rw [if_pos c] at h
    cases h
    exact ⟨⟨c.1, Nat.lt_of_lt_of_le (PySem.Flt.log2_lt_of (k := 64) (by decide) (by omega)) (by decide)⟩, rfl⟩
  · rw [if_neg c] at h; cases h
theorem so_mod : SO oMod modP := so_rI fun i j z h => by
  by_cases c : 0 < j
  · rw [if_pos c] at h
    cases h
    exact ⟨c, rfl⟩
  · rw [if_neg c] at h; cases h
theorem so_pow : SO oPow powP := so_rI fun i j z h => by
  by_cases c : 0 ≤ j ∧ j ≤ 1000 ∧ -(2 ^ 63) < i ∧ i < 2 ^ 63
  · rw [if_pos c] at h
    cases h
    exact ⟨⟨c.1, by omega, by omega⟩, rfl⟩
  · rw [if_neg c] at h; cases h
def mulP : PD → PD → Option PD
  | .int i, .int j => if (-(2 ^ 64) < i ∧ i < 2 ^ 64) ∨ (-(2 ^ 64) < j ∧ j < 2 ^ 64) then some (.int (i * j)) else none
  | .list xs, .int j => if 0 ≤ j ∧ j ≤ 100000 ∧ xs.length * j.toNat ≤ 100000 then some (.list (List.replicate j.toNat xs).flatten) else none
  | _, _ => none
def rMulU : R2 := fun x y H Q => rI CMul (fun i j => .int (i * j)) x y H Q ∨ rRep x y H Q
theorem op_mulU {X : Cx} : OpR X (binaryOp .Mult) rMulU := OpR.or op_mul op_rep
theorem so_mul : SO rMulU mulP := fun x y z h S H vx vy al rx ry Q q => by
  cases rx with
  | int i =>
    cases ry with
    | int j =>
      have h : (if (-(2 ^ 64) < i ∧ i < 2 ^ 64) ∨ (-(2 ^ 64) < j ∧ j < 2 ^ 64) then some (PyData.int (i * j)) else none) = some z := h
      by_cases c : (-(2 ^ 64) < i ∧ i < 2 ^ 64) ∨ (-(2 ^ 64) < j ∧ j < 2 ^ 64)
      · rw [if_pos c] at h
        cases h
        exact .inl ⟨i, j, rfl, rfl, c, q _ H (Ex.refl H) (.int _)⟩
      · rw [if_neg c] at h; cases h
    | _ => cases h
  | @lst a xs ds ha ra =>
    cases ry with
    | int j =>
      have h : (if 0 ≤ j ∧ j ≤ 100000 ∧ ds.length * j.toNat ≤ 100000 then some (PyData.list (List.replicate j.toNat ds).flatten) else none) = some z := h
      by_cases c : 0 ≤ j ∧ j ≤ 100000 ∧ ds.length * j.toNat ≤ 100000
      · rw [if_pos c] at h
        cases h
        refine .inr ⟨_, _, _, rfl, rfl, hid_le _ _ ha, by omega, by omega, ?_, fun p hp => q _ _ (Ex.new hp) (.lst (new_ok al hp) ((ra.rep j.toNat).ex (hid_ex (Ex.new hp))))⟩
        rw [ra.length]
        exact Evl.sz_of c.2.2
      · rw [if_neg c] at h; cases h
    | _ => cases h
  | _ => cases h
def negP : PD → Option PD
  | .int i => some (.int (-i))
  | _ => none
theorem su_neg : SU oNeg negP := fun x z h S H vx al rx Q q => by
  cases rx with
  | int i => cases h; exact ⟨i, rfl, q _ H (Ex.refl H) (.int _)⟩
  | _ => cases h
/-! ### equality, None, membership -/
def eqP (x y : PD) : Option PD := if SeqAt.shaped x = true ∧ SeqAt.shaped y = true then some (.bool (PyData.eqv x y)) else none
def neP (x y : PD) : Option PD := if SeqAt.shaped x = true ∧ SeqAt.shaped y = true then some (.bool (!PyData.eqv x y)) else none
theorem nodict {d : PD} (h : SeqAt.shaped d = true) : d.hasDict = false := by
  unfold SeqAt.shaped at h
  rw [Bool.and_eq_true] at h
  exact PyData.hasDict_of_canLay d h.1
theorem so_eq : SO (rEqD K) eqP := fun x y z h S H vx vy al rx ry Q q => by
  unfold eqP at h
  by_cases c : SeqAt.shaped x = true ∧ SeqAt.shaped y = true
  · rw [if_pos c] at h
    cases h
    exact ⟨x, y, (rx.ex hid_le).dp (nodict c.1), (ry.ex hid_le).dp (nodict c.2), c.1, c.2, q _ H (Ex.refl H) (.bl _)⟩
  · rw [if_neg c] at h; cases h
theorem so_ne : SO (rNeD K) neP := fun x y z h S H vx vy al rx ry Q q => by
  unfold neP at h
  by_cases c : SeqAt.shaped x = true ∧ SeqAt.shaped y = true
  · rw [if_pos c] at h
    cases h
    exact ⟨x, y, (rx.ex hid_le).dp (nodict c.1), (ry.ex hid_le).dp (nodict c.2), c.1, c.2, q _ H (Ex.refl H) (.bl _)⟩
  · rw [if_neg c] at h; cases h
def isNone : PD → Bool
  | .none => true
  | _ => false
def isP : PD → PD → Option PD
  | x, .none => some (.bool (isNone x))
  | _, _ => none
def isntP : PD → PD → Option PD
  | x, .none => some (.bool (!isNone x))
  | _, _ => none
theorem isNone_of {H : Hp} {v : V} {d : PD} (r : Rp H v d) : decide (v = .non) = isNone d := by cases r <;> rfl
theorem so_is : SO oIsN isP := fun x y z h S H vx vy al rx ry Q q => by
  cases ry with
  | non =>
    cases h
    exact ⟨rfl, q _ H (Ex.refl H) (by rw [isNone_of rx]; exact .bl _)⟩
  | _ => cases h
theorem so_isnt : SO oNotN isntP := fun x y z h S H vx vy al rx ry Q q => by
  cases ry with
  | non =>
    cases h
    exact ⟨rfl, q _ H (Ex.refl H) (by rw [isNone_of rx]; exact .bl _)⟩
  | _ => cases h
/-- x in a tuple whose items are data of any depth -/
def rInTu (K : PySem.W.Frag) : R2 := fun x y H Q => ∃ d ds, Dp K H x d ∧ Dp K H y (.tuple ds) ∧ SeqAt.shaped d = true ∧ SeqAt.shaped (.tuple ds) = true ∧ Q (.bl (ds.any fun z => PyData.eqv z d)) H
theorem op_inTu {X : Cx} (hu : X.A.units + 65 < cLine) : OpR X (compareOp .In) (rInTu X.K) := by
  intro pins s σ H x y v u Q I rx ry h
  obtain ⟨d, ds, h1, h2, s1, s2, q⟩ := h
  obtain ⟨as, r1⟩ := Dp.reads I d x v h1 rx
  obtain ⟨bs, r2⟩ := Dp.reads I (.tuple ds) y u h2 ry
  exact SeqAt.in_tuple_reads r2 r1 (SeqAt.canLay_of_shaped s2) (SeqAt.canLay_of_shaped s1) (room_in_shaped s1 hu) ⟨.bl _, H, I, rfl, q⟩
def rNotInTu (K : PySem.W.Frag) : R2 := fun x y H Q => ∃ d ds, Dp K H x d ∧ Dp K H y (.tuple ds) ∧ SeqAt.shaped d = true ∧ SeqAt.shaped (.tuple ds) = true ∧ Q (.bl (!ds.any fun z => PyData.eqv z d)) H
def rInU (K : PySem.W.Frag) : R2 := fun x y H Q => rInD K x y H Q ∨ rInTu K x y H Q
theorem op_inU {X : Cx} (hu : X.A.units + 65 < cLine) : OpR X (compareOp .In) (rInU X.K) := OpR.or (op_inD hu) (op_inTu hu)
def inP (x y : PD) : Option PD := if SeqAt.shaped x = true ∧ SeqAt.shaped y = true then match y with
  | .list ds => some (.bool (ds.any fun z => PyData.eqv z x))
  | .tuple ds => some (.bool (ds.any fun z => PyData.eqv z x))
  | _ => none else none
theorem so_in : SO (rInU K) inP := fun x y z h S H vx vy al rx ry Q q => by
  unfold inP at h
  by_cases c : SeqAt.shaped x = true ∧ SeqAt.shaped y = true
  · rw [if_pos c] at h
    cases y with
    | list ds =>
      cases h
      exact .inl ⟨x, ds, (rx.ex hid_le).dp (nodict c.1), (ry.ex hid_le).dp (nodict c.2), c.1, c.2, q _ H (Ex.refl H) (.bl _)⟩
    | tuple ds =>
      cases h
      exact .inr ⟨x, ds, (rx.ex hid_le).dp (nodict c.1), (ry.ex hid_le).dp (nodict c.2), c.1, c.2, q _ H (Ex.refl H) (.bl _)⟩
    | _ => cases h
  · rw [if_neg c] at h; cases h
/-! ### index, slice -/
def ixP : PD → PD → Option PD
  | .tuple ds, .int i => atI ds i
  | .list ds, .int i => atI ds i
  | .dict [(.none, .list ds)], .int i => atI ds i
  | _, _ => none
theorem so_ix : SO (rIx K) ixP := fun x y z h S H vx vy al rx ry Q q => by
  cases rx with
  | lst ha ra =>
    cases ry with
    | int i =>
      obtain ⟨v, h1, h2⟩ := ra.at h
      exact .inl ⟨_, _, i, v, rfl, rfl, .inl (.inl (hid_le _ _ ha)), h1, q v H (Ex.refl H) h2⟩
    | _ => cases h
  | tup ha _ ra =>
    cases ry with
    | int i =>
      obtain ⟨v, h1, h2⟩ := ra.at h
      exact .inr (.inl ⟨_, _, i, v, rfl, rfl, .inl (.inr ⟨_, hid_le _ _ ha⟩), h1, q v H (Ex.refl H) h2⟩)
    | _ => cases h
  | scr hs ra =>
    cases ry with
    | int i =>
      obtain ⟨v, h1, h2⟩ := ra.at h
      exact .inl ⟨_, _, i, v, rfl, rfl, sqx hid_le hs, h1, q v H (Ex.refl H) h2⟩
    | _ => cases h
  | _ => cases h
abbrev XO := VE → Option (Option Int)
def Eo (to : TO) (ρ : VE) (o : Option Int) : Prop := ∀ S σ H, Al S H → En (hid S H) σ ρ → ∀ Q : Option Int → Hp → Prop, (∀ H2, Ex H H2 → Q o H2) → to σ H Q
def SP (to : TO) (x : XO) : Prop := ∀ ρ o, x ρ = some o → Eo to ρ o
def xNoPart : XO := fun _ => some none
def xPart (a : XE) : XO := fun ρ => (a ρ).bind fun d => match d with
  | .int i => some (some i)
  | _ => none
theorem sp_none : SP tNoPart xNoPart := fun ρ o h S σ H al en Q q => by cases h; exact q H (Ex.refl H)
theorem sp_some {ta : TE} {a : XE} (ha : SE ta a) : SP (tPart ta) (xPart a) := fun ρ o h S σ H al en Q q => by
  obtain ⟨d, h1, h⟩ := bind_some h
  cases d with
  | int i =>
    cases h
    exact ha ρ _ h1 S σ H al en _ fun v H1 e1 rv => by cases rv; exact ⟨i, rfl, q H1 e1⟩
  | _ => cases h
def cutD (ds : List PD) (lo hi : Option Int) : List PD := (ds.drop (HT.sIx ds.length 0 lo)).take (HT.sIx ds.length ds.length hi - HT.sIx ds.length 0 lo)
def slP : PD → Option Int → Option Int → Option PD
  | .list ds, lo, hi => some (.list (cutD ds lo hi))
  | .tuple ds, lo, hi => some (.tuple (cutD ds lo hi))
  | .dict [(.none, .list ds)], lo, hi => some (.list (cutD ds lo hi))
  | _, _, _ => none
def rSlU (K : PySem.W.Frag) : V → Option Int → Option Int → Hp → VK → Prop := fun x lo hi H Q => rSlL K x lo hi H Q ∨ rSlF K x lo hi H Q
theorem sl_U {X : Cx} : SlR X (rSlU X.K) := SlR.or sl_list sl_tupF
def xSl (a : XE) (lo hi : XO) : XE := fun ρ => (a ρ).bind fun d => (lo ρ).bind fun l => (hi ρ).bind fun h => slP d l h
theorem RpAll.cut {H : Hp} {vs : List V} {ds : List PD} (r : RpAll H vs ds) (lo hi : Option Int) : RpAll H (cutV vs lo hi) (cutD ds lo hi) := by
  unfold cutV cutD
  rw [r.length]
  exact (r.drop _).take _
theorem se_sl {ta : TE} {tl th : TO} {a : XE} {lo hi : XO} (ha : SE ta a) (hl : SP tl lo) (hh : SP th hi) : SE (tSl (rSlU K) ta tl th) (xSl a lo hi) := fun ρ d h S σ H al en Q q => by
  obtain ⟨x, h1, h⟩ := bind_some h
  obtain ⟨l, h2, h⟩ := bind_some h
  obtain ⟨u, h3, h⟩ := bind_some h
  refine ha ρ x h1 S σ H al en _ fun v H1 e1 rv => hl ρ l h2 S σ H1 (al.ex e1) (en.ex (hid_ex e1)) _ fun H2 e2 => hh ρ u h3 S σ H2 ((al.ex e1).ex e2) ((en.ex (hid_ex e1)).ex (hid_ex e2)) _ fun H3 e3 => ?_
  have e23 := e2.trans e3
  have e13 := e1.trans e23
  have rv3 := rv.ex (hid_ex (S := S) e23)
  cases rv3 with
  | lst ha3 ra3 =>
    cases h
    exact .inl ⟨_, _, rfl, .inl (.inl (hid_le _ _ ha3)), fun p hp => q _ _ (e13.trans (Ex.new hp)) (.lst (new_ok (al.ex e13) hp) ((ra3.cut l u).ex (hid_ex (Ex.new hp))))⟩
  | @tup a o xs ds ha3 pl ra3 =>
    cases h
    refine .inr ⟨_, _, rfl, .inl (.inr ⟨_, hid_le _ _ ha3⟩), fun c => ?_, fun _ p o hp pl => q _ _ (e13.trans (Ex.new hp)) (.tup (new_ok (al.ex e13) hp) pl ((ra3.cut l u).ex (hid_ex (Ex.new hp))))⟩
    have e : cutD ds l u = ds := by
      unfold cutD
      rw [ra3.length] at c
      rw [c.1, c.2, List.drop_zero, Nat.sub_zero, List.take_length]
    exact q _ H3 e13 (by rw [e]; exact .tup ha3 pl ra3)
  | scr hs ra3 =>
    cases h
    exact .inl ⟨_, _, rfl, sqx hid_le hs, fun p hp => q _ _ (e13.trans (Ex.new hp)) (.lst (new_ok (al.ex e13) hp) ((ra3.cut l u).ex (hid_ex (Ex.new hp))))⟩
  | _ => cases h
end
end Uv

namespace Uv
open PySem PySem.Spec PyProof.Rows L2
open Evl (Ex)
variable [kk : KK]
/-! ### not in -/
theorem op_notInTu {X : Cx} (hu : X.A.units + 65 < cLine) : OpR X (compareOp .NotIn) (rNotInTu X.K) := by
  intro pins s σ H x y v u Q I rx ry ⟨d, ds, h1, h2, s1, s2, q⟩
  obtain ⟨as, r1⟩ := Dp.reads I d x v h1 rx
  obtain ⟨bs, r2⟩ := Dp.reads I (.tuple ds) y u h2 ry
  exact SeqAt.notIn_tuple_reads r2 r1 (SeqAt.canLay_of_shaped s2) (SeqAt.canLay_of_shaped s1) (room_in_shaped s1 hu) ⟨.bl _, H, I, rfl, q⟩
def rNotInU (K : PySem.W.Frag) : R2 := fun x y H Q => rNotInD K x y H Q ∨ rNotInTu K x y H Q
theorem op_notInU {X : Cx} (hu : X.A.units + 65 < cLine) : OpR X (compareOp .NotIn) (rNotInU X.K) := OpR.or (op_notInD hu) (op_notInTu hu)
def notinP (x y : PD) : Option PD := if SeqAt.shaped x = true ∧ SeqAt.shaped y = true then match y with
  | .list ds => some (.bool (!ds.any fun z => PyData.eqv z x))
  | .tuple ds => some (.bool (!ds.any fun z => PyData.eqv z x))
  | _ => none else none
section
theorem so_notin : SO (rNotInU K) notinP := fun x y z h S H vx vy al rx ry Q q => by
  unfold notinP at h
  by_cases c : SeqAt.shaped x = true ∧ SeqAt.shaped y = true
  · rw [if_pos c] at h
    cases y with
    | list ds =>
      cases h
      exact .inl ⟨x, ds, (rx.ex hid_le).dp (nodict c.1), (ry.ex hid_le).dp (nodict c.2), c.1, c.2, q _ H (Ex.refl H) (.bl _)⟩
    | tuple ds =>
      cases h
      exact .inr ⟨x, ds, (rx.ex hid_le).dp (nodict c.1), (ry.ex hid_le).dp (nodict c.2), c.1, c.2, q _ H (Ex.refl H) (.bl _)⟩
    | _ => cases h
  · rw [if_neg c] at h; cases h
/-! ### arguments one by one -/
def on1 (f : PD → Option PD) : List PD → Option PD
  | [x] => f x
  | _ => none
def on2 (f : PD → PD → Option PD) : List PD → Option PD
  | [x, y] => f x y
  | _ => none
theorem on1_eq {f : PD → Option PD} {xs : List PD} {z : PD} (h : on1 f xs = some z) : ∃ x, xs = [x] ∧ f x = some z := by
  match xs, h with
  | [x], h => exact ⟨x, rfl, h⟩
  | [], h => cases h
  | _ :: _ :: _, h => cases h
theorem on2_eq {f : PD → PD → Option PD} {xs : List PD} {z : PD} (h : on2 f xs = some z) : ∃ x y, xs = [x, y] ∧ f x y = some z := by
  match xs, h with
  | [x, y], h => exact ⟨x, y, rfl, h⟩
  | [], h => cases h
  | [_], h => cases h
  | _ :: _ :: _ :: _, h => cases h
theorem sc_on1 {r : List V → Hp → VK → Prop} {f : PD → Option PD} (hf : ∀ x z, f x = some z → ∀ S H v, Al S H → Rp (hid S H) v x → ∀ Q : VK, (∀ v H2, Ex H H2 → Rp (hid S H2) v z → Q v H2) → r [v] H Q) : SC r (on1 f) := fun xs z h S H vs al rv Q q => by
  obtain ⟨x, rfl, h⟩ := on1_eq h
  cases rv with
  | cons h1 t => cases t; exact hf x z h S H _ al h1 Q q
theorem sc_on2 {r : List V → Hp → VK → Prop} {f : PD → PD → Option PD} (hf : ∀ x y z, f x y = some z → ∀ S H v w, Al S H → Rp (hid S H) v x → Rp (hid S H) w y → ∀ Q : VK, (∀ v H2, Ex H H2 → Rp (hid S H2) v z → Q v H2) → r [v, w] H Q) : SC r (on2 f) := fun xs z h S H vs al rv Q q => by
  obtain ⟨x, y, rfl, h⟩ := on2_eq h
  cases rv with
  | cons h1 t =>
    cases t with
    | cons h2 t => cases t; exact hf x y z h S H _ _ al h1 h2 Q q
/-! ### len, abs, int -/
def rLenQ (K : PySem.W.Frag) : List V → Hp → VK → Prop := fun xs H Q => ∃ p ys, xs = [.ref p] ∧ (SqL K H p ys ∨ SqT K H p ys) ∧ Q (.int ys.length) H
def lenP : PD → Option PD
  | .list ds => some (.int (ds.length : Nat))
  | .tuple ds => some (.int (ds.length : Nat))
  | .dict [(.none, .list ds)] => some (.int (ds.length : Nat))
  | _ => none
theorem sc_len : SC (rLenQ K) (on1 lenP) := sc_on1 fun x z h S H v al rv Q q => by
  cases rv with
  | lst ha ra => cases h; exact ⟨_, _, rfl, .inl (.inl (.inl (hid_le _ _ ha))), q _ H (Ex.refl H) (ra.length ▸ .int _)⟩
  | tup ha _ ra => cases h; exact ⟨_, _, rfl, .inr (.inl (.inr ⟨_, hid_le _ _ ha⟩)), q _ H (Ex.refl H) (ra.length ▸ .int _)⟩
  | scr hs ra => cases h; exact ⟨_, _, rfl, .inl (sqx hid_le hs), q _ H (Ex.refl H) (ra.length ▸ .int _)⟩
  | _ => cases h
def absP : PD → Option PD
  | .int i => some (.int (if i < 0 then -i else i))
  | _ => none
theorem sc_abs : SC rAbsQ (on1 absP) := sc_on1 fun x z h S H v al rv Q q => by
  cases rv with
  | int i => cases h; exact ⟨i, rfl, q _ H (Ex.refl H) (.int _)⟩
  | _ => cases h
def toIntP : PD → Option PD
  | .int i => some (.int i)
  | .bool b => some (.int (if b then 1 else 0))
  | _ => none
theorem sc_int : SC rIntQ (on1 toIntP) := sc_on1 fun x z h S H v al rv Q q => by
  cases rv with
  | int i => cases h; exact .inl ⟨i, rfl, q _ H (Ex.refl H) (.int _)⟩
  | bl b => cases h; exact .inr ⟨b, rfl, q _ H (Ex.refl H) (.int _)⟩
  | _ => cases h
/-! ### sum, all, any, min, max -/
def intsP (f : List Int → Option PD) : PD → Option PD
  | .list ds => (unI ds).bind f
  | _ => none
def boolsP (f : List Bool → PD) : PD → Option PD
  | .list ds => (unB ds).bind fun bs => some (f bs)
  | _ => none
def sumP : PD → Option PD := intsP fun ns => some (.int ns.sum)
theorem sc_sum : SC (rSum K) (on1 sumP) := sc_on1 fun x z h S H v al rv Q q => by
  cases rv with
  | lst ha ra =>
    obtain ⟨ns, h1, h2⟩ := bind_some h
    have e := unI_eq h1
    subst e
    have e := ra.ints
    subst e
    cases h2
    exact ⟨_, ns, rfl, .inl (.inl (hid_le _ _ ha)), q _ H (Ex.refl H) (.int _)⟩
  | _ => cases h
def allP : PD → Option PD := boolsP fun bs => .bool (bs.all id)
def anyP : PD → Option PD := boolsP fun bs => .bool (bs.any id)
theorem sc_all : SC (rAll K) (on1 allP) := sc_on1 fun x z h S H v al rv Q q => by
  cases rv with
  | lst ha ra =>
    obtain ⟨ns, h1, h2⟩ := bind_some h
    have e := unB_eq h1
    subst e
    have e := ra.bools
    subst e
    cases h2
    exact ⟨_, ns, rfl, .inl (.inl (hid_le _ _ ha)), q _ H (Ex.refl H) (.bl _)⟩
  | _ => cases h
theorem sc_any : SC (rAny K) (on1 anyP) := sc_on1 fun x z h S H v al rv Q q => by
  cases rv with
  | lst ha ra =>
    obtain ⟨ns, h1, h2⟩ := bind_some h
    have e := unB_eq h1
    subst e
    have e := ra.bools
    subst e
    cases h2
    exact ⟨_, ns, rfl, .inl (.inl (hid_le _ _ ha)), q _ H (Ex.refl H) (.bl _)⟩
  | _ => cases h
def leastI : Int → List Int → Int
  | x, [] => x
  | x, y :: ys => leastI (if y < x then y else x) ys
def mostI : Int → List Int → Int
  | x, [] => x
  | x, y :: ys => mostI (if y > x then y else x) ys
theorem leastI_mem : ∀ (ys : List Int) (x : Int), leastI x ys ∈ x :: ys
  | [], x => List.mem_cons_self ..
  | y :: ys, x => by
    have z := leastI_mem ys (if y < x then y else x)
    unfold leastI
    by_cases c : y < x
    · rw [if_pos c] at z ⊢
      exact List.mem_cons_of_mem _ z
    · rw [if_neg c] at z ⊢
      rcases List.mem_cons.mp z with e | e
      · rw [e]; exact List.mem_cons_self ..
      · exact List.mem_cons_of_mem _ (List.mem_cons_of_mem _ e)
theorem leastI_le : ∀ (ys : List Int) (x : Int), ∀ y ∈ x :: ys, leastI x ys ≤ y
  | [], x, y, h => by
    have e : y = x := by simpa using h
    rw [e]
    exact Int.le_refl _
  | z :: ys, x, y, h => by
    unfold leastI
    have ih := leastI_le ys (if z < x then z else x)
    have i0 := ih _ (List.mem_cons_self ..)
    rcases List.mem_cons.mp h with e | h
    · subst e
      refine Int.le_trans i0 ?_
      split <;> omega
    · rcases List.mem_cons.mp h with e | h
      · subst e
        refine Int.le_trans i0 ?_
        split <;> omega
      · exact ih y (List.mem_cons_of_mem _ h)
theorem mostI_mem : ∀ (ys : List Int) (x : Int), mostI x ys ∈ x :: ys
  | [], x => List.mem_cons_self ..
  | y :: ys, x => by
    have z := mostI_mem ys (if y > x then y else x)
    unfold mostI
    by_cases c : y > x
    · rw [if_pos c] at z ⊢
      exact List.mem_cons_of_mem _ z
    · rw [if_neg c] at z ⊢
      rcases List.mem_cons.mp z with e | e
      · rw [e]; exact List.mem_cons_self ..
      · exact List.mem_cons_of_mem _ (List.mem_cons_of_mem _ e)
theorem mostI_ge : ∀ (ys : List Int) (x : Int), ∀ y ∈ x :: ys, y ≤ mostI x ys
  | [], x, y, h => by
    have e : y = x := by simpa using h
    rw [e]
    exact Int.le_refl _
  | z :: ys, x, y, h => by
    unfold mostI
    have ih := mostI_ge ys (if z > x then z else x)
    have i0 := ih _ (List.mem_cons_self ..)
    rcases List.mem_cons.mp h with e | h
    · subst e
      refine Int.le_trans ?_ i0
      split <;> omega
    · rcases List.mem_cons.mp h with e | h
      · subst e
        refine Int.le_trans ?_ i0
        split <;> omega
      · exact ih y (List.mem_cons_of_mem _ h)
def minL : List Int → Option PD
  | x :: xs => some (.int (leastI x xs))
  | [] => none
def maxL : List Int → Option PD
  | x :: xs => some (.int (mostI x xs))
  | [] => none
def minP : List PD → Option PD
  | [.list ds] => (unI ds).bind minL
  | [.int i, .int j] => some (.int (if j < i then j else i))
  | _ => none
def maxP : List PD → Option PD
  | [.list ds] => (unI ds).bind maxL
  | [.int i, .int j] => some (.int (if j > i then j else i))
  | _ => none
def rMinU (K : PySem.W.Frag) : List V → Hp → VK → Prop := fun xs H Q => rMin K xs H Q ∨ ∃ i j, xs = [.int i, .int j] ∧ Q (.int (if j < i then j else i)) H
def rMaxU (K : PySem.W.Frag) : List V → Hp → VK → Prop := fun xs H Q => rMax K xs H Q ∨ ∃ i j, xs = [.int i, .int j] ∧ Q (.int (if j > i then j else i)) H
theorem cr_minU {X : Cx} (hc : X.calm = true) : CallR X (.builtin "min") (rMinU X.K) := CallR.or (cr_min hc) (call_min2 hc)
theorem cr_maxU {X : Cx} (hc : X.calm = true) : CallR X (.builtin "max") (rMaxU X.K) := CallR.or (cr_max hc) (call_max2 hc)
theorem sc_min : SC (rMinU K) minP := fun xs z h S H vs al rv Q q => by
  unfold minP at h
  split at h
  · cases rv with
    | cons h1 t =>
      cases t
      cases h1 with
      | lst ha ra =>
        obtain ⟨ns, h1, h2⟩ := bind_some h
        have e := unI_eq h1
        subst e
        have e := ra.ints
        subst e
        cases ns with
        | nil => cases h2
        | cons n ns =>
          cases h2
          refine .inl ⟨_, n :: ns, rfl, .inl (.inl (hid_le _ _ ha)), Nat.succ_pos _, fun m m1 m2 => ?_⟩
          have e : m = leastI n ns := Int.le_antisymm (m2 _ (leastI_mem ns n)) (leastI_le ns n m m1)
          rw [e]
          exact q _ H (Ex.refl H) (.int _)
  · cases rv with
    | cons h1 t =>
      cases t with
      | cons h2 t =>
        cases t
        cases h1; cases h2; cases h
        exact .inr ⟨_, _, rfl, q _ H (Ex.refl H) (.int _)⟩
  · cases h
theorem sc_max : SC (rMaxU K) maxP := fun xs z h S H vs al rv Q q => by
  unfold maxP at h
  split at h
  · cases rv with
    | cons h1 t =>
      cases t
      cases h1 with
      | lst ha ra =>
        obtain ⟨ns, h1, h2⟩ := bind_some h
        have e := unI_eq h1
        subst e
        have e := ra.ints
        subst e
        cases ns with
        | nil => cases h2
        | cons n ns =>
          cases h2
          refine .inl ⟨_, n :: ns, rfl, .inl (.inl (hid_le _ _ ha)), Nat.succ_pos _, fun m m1 m2 => ?_⟩
          have e : m = mostI n ns := Int.le_antisymm (mostI_ge ns n m m1) (m2 _ (mostI_mem ns n))
          rw [e]
          exact q _ H (Ex.refl H) (.int _)
  · cases rv with
    | cons h1 t =>
      cases t with
      | cons h2 t =>
        cases t
        cases h1; cases h2; cases h
        exact .inr ⟨_, _, rfl, q _ H (Ex.refl H) (.int _)⟩
  · cases h
/-! ### tuple, list -/
def tupP : PD → Option PD
  | .list ds => some (.tuple ds)
  | .tuple ds => some (.tuple ds)
  | _ => none
theorem sc_tup : SC (rTupF K) (on1 tupP) := sc_on1 fun x z h S H v al rv Q q => by
  cases rv with
  | lst ha ra => cases h; exact ⟨_, _, rfl, .inl ⟨.inl (.inl (hid_le _ _ ha)), fun l o hl pl => q _ _ (Ex.new hl) (.tup (new_ok al hl) pl (ra.ex (hid_ex (Ex.new hl))))⟩⟩
  | tup ha p ra => cases h; exact ⟨_, _, rfl, .inr ⟨.inl (.inr ⟨_, hid_le _ _ ha⟩), q _ H (Ex.refl H) (.tup ha p ra)⟩⟩
  | _ => cases h
def rListQ (K : PySem.W.Frag) : List V → Hp → VK → Prop := fun xs H Q => ∃ p ys, xs = [.ref p] ∧ (SqL K H p ys ∨ SqT K H p ys) ∧ ∀ l, H l = none → Q (.ref l) (upd H l (.lst ys))
def listP : PD → Option PD
  | .list ds => some (.list ds)
  | .tuple ds => some (.list ds)
  | _ => none
theorem sc_list : SC (rListQ K) (on1 listP) := sc_on1 fun x z h S H v al rv Q q => by
  cases rv with
  | lst ha ra => cases h; exact ⟨_, _, rfl, .inl (.inl (.inl (hid_le _ _ ha))), fun l hl => q _ _ (Ex.new hl) (.lst (new_ok al hl) (ra.ex (hid_ex (Ex.new hl))))⟩
  | tup ha p ra => cases h; exact ⟨_, _, rfl, .inr (.inl (.inr ⟨_, hid_le _ _ ha⟩)), fun l hl => q _ _ (Ex.new hl) (.lst (new_ok al hl) (ra.ex (hid_ex (Ex.new hl))))⟩
  | _ => cases h
/-! ### isinstance -/
def tyN : PD → String
  | .none => "NoneType"
  | .bool _ => "bool"
  | .int _ => "int"
  | .str _ => "str"
  | .list _ => "list"
  | .tuple _ => "tuple"
  | .dict _ => "dict"
def full : PD → Bool
  | .dict (_ :: _) => true
  | _ => false
theorem Rp.ty {H : Hp} {v : V} {d : PD} (r : Rp H v d) (nf : full d = false) : TyX K H v (.type (tyN d)) := by
  cases r with
  | non => exact .base .non
  | bl b => exact .base (.bl b)
  | int i => exact .base (.int i)
  | str x => exact .base (.str x)
  | lst h _ => exact .base (.lst h)
  | tup h _ _ => exact .fTuple h
  | dic h => exact .base (.dK h)
  | scr _ _ => cases nf
inductive Ty | int | bool | str | list | tuple | dict
def Ty.nm : Ty → String
  | .int => "int" | .bool => "bool" | .str => "str" | .list => "list" | .tuple => "tuple" | .dict => "dict"
def isTy : Ty → PD → Bool
  | .int, .int _ => true
  | .int, .bool _ => true
  | .bool, .bool _ => true
  | .str, .str _ => true
  | .list, .list _ => true
  | .tuple, .tuple _ => true
  | .dict, .dict _ => true
  | _, _ => false
theorem kit_c : ∀ t : Ty, kitB "NoneType" t.nm = some (isTy t .none) ∧ kitB "bool" t.nm = some (isTy t (.bool true)) ∧ kitB "int" t.nm = some (isTy t (.int 0)) ∧ kitB "str" t.nm = some (isTy t (.str (Str.ofString ""))) ∧ kitB "list" t.nm = some (isTy t (.list [])) ∧ kitB "tuple" t.nm = some (isTy t (.tuple [])) ∧ kitB "dict" t.nm = some (isTy t (.dict [])) := by
  intro t
  cases t <;> decide +kernel
theorem kit_of : ∀ (t : Ty) (d : PD), kitB (tyN d) t.nm = some (isTy t d) := by
  intro t d
  obtain ⟨h1, h2, h3, h4, h5, h6, h7⟩ := kit_c t
  cases d with
  | none => exact h1
  | bool b => exact h2.trans (by cases t <;> rfl)
  | int i => exact h3.trans (by cases t <;> rfl)
  | str x => exact h4.trans (by cases t <;> rfl)
  | list xs => exact h5.trans (by cases t <;> rfl)
  | tuple xs => exact h6.trans (by cases t <;> rfl)
  | dict xs => exact h7.trans (by cases t <;> rfl)
def xIsi (t : Ty) (a : XE) : XE := fun ρ => (a ρ).bind fun d => if full d = true then none else some (.bool (isTy t d))
theorem se_isi {ta : TE} {a : XE} {n : String} (t : Ty) (hn : t.nm = n) (ha : SE ta a) : SE (tCB (rIsi K) (tCons ta (tCons (tC (.ty n)) tNil))) (xIsi t a) := fun ρ d h S σ H al en Q q => by
  obtain ⟨x, h1, h⟩ := bind_some h
  have nf : full x = false := by
    cases q : full x with
    | true => rw [if_pos q] at h; cases h
    | false => rfl
  rw [if_neg (by rw [nf]; exact Bool.false_ne_true)] at h
  cases h
  subst hn
  exact ha ρ x h1 S σ H al en _ fun v H1 e1 rv => ⟨_, .ty t.nm, _, .type t.nm, isTy t x, rfl, .ty t.nm, (rv.ex hid_le).ty nf, kit_ty (kit_of t x), q _ H1 e1 (.bl _)⟩
/-! ### repr -/
def rRepr (K : PySem.W.Frag) : List V → Hp → VK → Prop := fun vs H Q => ∃ v d, vs = [v] ∧ Dp K H v d ∧ d.showable = true ∧ d.hasDict = false ∧ d.depth ≤ 60 ∧ d.shown.length ≤ sizeLine ∧ Q (.str d.shown) H
theorem cr_repr {X : Cx} (hg : X.A.guards = some []) (hu : X.A.units + 65 < cLine) : CallR X (.builtin "repr") (rRepr X.K) := by
  intro pins s σ H vs us Q I r h
  obtain ⟨v, d, rfl, hd, sh, nd, dp, sz, q⟩ := h
  obtain ⟨u, rfl, ru⟩ : ∃ u, us = [u] ∧ RelV v u := by
    cases r with
    | cons p t => cases t; exact ⟨_, rfl, p⟩
  obtain ⟨as, rd⟩ := Dp.reads I d v u hd ru
  have fin : ∀ h' tk t, (∀ b o, s.heap.get? b = some o → h'.get? b = some o) → ∃ v H', Inv X pins σ H' { s with heap := h', toks := tk } ∧ RelV v (.str d.shown t) ∧ Q v H' := fun h' tk t hk => ⟨.str _, H, I.kept hk, ⟨_, rfl⟩, q⟩
  cases rd with
  | none => exact P.repr_of_none (fin s.heap _ _ fun _ _ e => e)
  | bool b => exact P.repr_of_bool (by cases b <;> exact fin s.heap _ _ fun _ _ e => e)
  | int i t => exact P.repr_of_int (by simpa [PyData.showable] using sh) (fin s.heap _ _ fun _ _ e => e)
  | str x t => exact P.repr_of_str (fin s.heap _ _ fun _ _ e => e) sz
  | list h1 h2 h3 h4 => exact repr_of_reads' (.list h1 h2 h3 h4) sh (fun e => by rw [nd] at e; cases e) hg (by omega) (fun _ _ e => e) (fun h' u tk hk => fin h' tk u hk) sz
  | tuple h1 h2 h3 h4 => exact repr_of_reads' (.tuple h1 h2 h3 h4) sh (fun e => by rw [nd] at e; cases e) hg (by omega) (fun _ _ e => e) (fun h' u tk hk => fin h' tk u hk) sz
  | dict h1 h2 h3 h4 h5 => exact repr_of_reads' (.dict h1 h2 h3 h4 h5) sh (fun e => by rw [nd] at e; cases e) hg (by omega) (fun _ _ e => e) (fun h' u tk hk => fin h' tk u hk) sz
def CanShow (d : PD) : Prop := d.showable = true ∧ d.hasDict = false ∧ d.depth ≤ 60 ∧ d.shown.length ≤ sizeLine
instance {d : PD} : Decidable (CanShow d) := inferInstanceAs (Decidable (_ ∧ _))
def reprP (d : PD) : Option PD := if CanShow d then some (.str d.shown) else none
theorem sc_repr : SC (rRepr K) (on1 reprP) := sc_on1 fun x z h S H v al rv Q q => by
  unfold reprP at h
  by_cases c : CanShow x
  · rw [if_pos c] at h
    cases h
    exact ⟨v, x, rfl, (rv.ex hid_le).dp c.2.1, c.1, c.2.1, c.2.2.1, c.2.2.2, q _ H (Ex.refl H) (.str _)⟩
  · rw [if_neg c] at h; cases h
/-! ### index -/
def idxP (x y : PD) : Option PD := match x, y with
  | .tuple ds, .int m => (unI ds).bind fun ns => if m ∈ ns then some (.int (ns.idxOf m : Nat)) else none
  | .list ds, y => if SeqAt.shaped (.list ds) = true ∧ SeqAt.shaped y = true then match ds.findIdx? fun z => PyData.eqv z y with
    | some j => some (.int (j : Nat))
    | none => none
    else none
  | _, _ => none
def tIdx (K : PySem.W.Frag) (to : TE) (t : TA) : TE := fun σ H Q => tBMF (rIndexF K) to t σ H Q ∨ tBM K "list" (rIndexD K) to t σ H Q
def xIdx (a b : XE) : XE := xOp idxP a b
theorem se_idx {ta tb : TE} {a b : XE} (ha : SE ta a) (hb : SE tb b) : SE (tIdx K ta (tCons tb tNil)) (xIdx a b) := fun ρ d h S σ H al en Q q => by
  obtain ⟨x, h1, h⟩ := bind_some h
  obtain ⟨y, h2, h⟩ := bind_some h
  cases x with
  | tuple ds =>
    cases y with
    | int m =>
      obtain ⟨ns, h3, h4⟩ := bind_some h
      have e := unI_eq h3
      subst e
      by_cases c : m ∈ ns
      · rw [if_pos c] at h4
        cases h4
        refine .inl (ha ρ _ h1 S σ H al en _ fun v H1 e1 rv => ?_)
        generalize ed : PyData.tuple (ns.map PyData.int) = dd at rv
        cases rv with
        | tup hx pl ra =>
          cases ed
          refine ⟨⟨_, _, _, rfl, hid_le _ _ hx, pl⟩, hb ρ _ h2 S σ H1 (al.ex e1) (en.ex (hid_ex e1)) _ fun w H2 e2 rw' => ?_⟩
          cases rw'
          have e := ra.ints
          subst e
          exact ⟨_, ns, m, rfl, rfl, .inl (.inr ⟨_, hid_le _ _ (hid_ex e2 _ _ hx)⟩), c, q _ H2 (e1.trans e2) (.int _)⟩
        | _ => cases ed
      · rw [if_neg c] at h4; cases h4
    | _ => cases h
  | list ds =>
    have h : (if SeqAt.shaped (.list ds) = true ∧ SeqAt.shaped y = true then match ds.findIdx? fun z => PyData.eqv z y with
      | some j => some (PyData.int (j : Nat))
      | none => none
      else none) = some d := by cases y <;> exact h
    by_cases c : SeqAt.shaped (.list ds) = true ∧ SeqAt.shaped y = true
    · rw [if_pos c] at h
      cases hj : ds.findIdx? fun z => PyData.eqv z y with
      | none => rw [hj] at h; cases h
      | some j =>
        rw [hj] at h
        cases h
        obtain ⟨hlt, hy, hn⟩ := List.findIdx?_eq_some_iff_getElem.mp hj
        refine .inr (ha ρ _ h1 S σ H al en _ fun v H1 e1 rv => ?_)
        cases rv with
        | lst hx ra =>
          refine ⟨.inl ⟨rfl, _, .inl (.inl (hid_le _ _ hx))⟩, hb ρ _ h2 S σ H1 (al.ex e1) (en.ex (hid_ex e1)) _ fun w H2 e2 rw' => ?_⟩
          have hx2 := hid_ex (S := S) e2 _ _ hx
          refine ⟨_, w, y, ds, j, ds[j], rfl, rfl, ((Rp.lst hx2 (ra.ex (hid_ex e2))).ex hid_le).dp (nodict c.1), (rw'.ex hid_le).dp (nodict c.2), c.1, c.2, List.getElem?_eq_getElem hlt, hy, fun m z' hm hz => ?_, q _ H2 (e1.trans e2) (.int _)⟩
          obtain ⟨hm2, ez⟩ := List.getElem?_eq_some_iff.mp hz
          have hz2 := hn m hm
          subst ez
          simpa using hz2
    · rw [if_neg c] at h; cases h
  | _ => cases h
end
end Uv

namespace Uv
open PySem PySem.Spec PyProof.Rows L2
open Evl (Ex)
variable [kk : KK]
/-! ### slots that own lists -/
inductive Cel | dat (d : PD) | sub (ds : List PD)
def Cel.pd : Cel → PD
  | .dat d => d
  | .sub ds => .list ds
inductive Sl | un | dat (d : PD) | own (cs : List Cel) | dic (kvs : List (Int × PD))
abbrev Env := List Sl
def Sl.vw : Sl → Option PD
  | .un => none
  | .dat d => some d
  | .own cs => some (.list (cs.map Cel.pd))
  | .dic _ => none
def Sl.mk : Sl → Option PD
  | .dat d => some d
  | _ => none
def vw (ρ : Env) : VE := ρ.map Sl.vw
def mk (ρ : Env) : VE := ρ.map Sl.mk
abbrev Trs := Nat → List Addr
def SF (F : Hs) (T : Trs) : Hs := fun x => F x ∨ ∃ i, x ∈ T i
def FL (F : Hs) (L : List Addr) : Hs := fun x => F x ∨ x ∈ L
/-- the items of an owned list: data, or lists of data that are owned too (at the addresses) -/
inductive Cels (G H : Hp) : List V → List Cel → List Addr → Prop
  | nil : Cels G H [] [] []
  | dat {v : V} {d : PD} {vs : List V} {cs : List Cel} {B : List Addr} : Rp G v d → Cels G H vs cs B → Cels G H (v :: vs) (.dat d :: cs) B
  | sub {b : Addr} {ws : List V} {ds : List PD} {vs : List V} {cs : List Cel} {B : List Addr} : H b = some (.lst ws) → RpAll G ws ds → Cels G H vs cs B → Cels G H (.ref b :: vs) (.sub ds :: cs) (b :: B)
def Own (G H : Hp) (v : V) (cs : List Cel) (A : List Addr) : Prop := ∃ a vs B, v = .ref a ∧ H a = some (.lst vs) ∧ Cels G H vs cs B ∧ A = a :: B
/-- a dict with whole numbers for keys, and data -/
inductive Kvs (G : Hp) : List (Key × V) → List (Int × PD) → Prop
  | nil : Kvs G [] []
  | cons {k : Int} {v : V} {d : PD} {ks : List (Key × V)} {l : List (Int × PD)} : Rp G v d → Kvs G ks l → Kvs G ((.inl k, v) :: ks) ((k, d) :: l)
theorem Kvs.ex {G G' : Hp} (e : Ex G G') : ∀ {ks : List (Key × V)} {l : List (Int × PD)}, Kvs G ks l → Kvs G' ks l
  | _, _, .nil => .nil
  | _, _, .cons r c => .cons (r.ex e) (c.ex e)
def Dc (G H : Hp) (v : V) (l : List (Int × PD)) (A : List Addr) : Prop := ∃ a ks, v = .ref a ∧ H a = some (.dK ks) ∧ Kvs G ks l ∧ A = [a]
theorem Dc.mv {G G' H H' : Hp} (e : Ex G G') {v : V} {l : List (Int × PD)} {A : List Addr} (h : ∀ x ∈ A, H' x = H x) (o : Dc G H v l A) : Dc G' H' v l A := by
  obtain ⟨a, ks, rfl, ha, c, rfl⟩ := o
  exact ⟨a, ks, rfl, (h a (List.mem_cons_self ..)).trans ha, c.ex e, rfl⟩
def SlOk (G H : Hp) (o : Option V) (s : Sl) (A : List Addr) : Prop := match s with
  | .un => A = []
  | .dat d => A = [] ∧ ∃ v, o = some v ∧ Rp G v d
  | .own cs => ∃ v, o = some v ∧ Own G H v cs A
  | .dic l => ∃ v, o = some v ∧ Dc G H v l A
structure StOk (pn : Option V) (F : Hs) (T : Trs) (H : Hp) (σ : L2.St) (ρ : Env) : Prop where
  len : σ.length = ρ.length
  al : Al F H
  off : ∀ i x, x ∈ T i → ¬ F x
  dis : ∀ i j x, x ∈ T i → x ∈ T j → i = j
  nd : ∀ i, (T i).Nodup
  out : ∀ i, ρ.length ≤ i → T i = []
  sl : ∀ i s, ρ[i]? = some s → ∃ o, σ[i]? = some o ∧ SlOk (hid (SF F T) H) H o s (T i)
  pin : ∀ v, pn = some v → σ[0]? = some (some v)
structure Stp (F : Hs) (T : Trs) (H : Hp) (T' : Trs) (H' : Hp) : Prop where
  fr : ∀ x, F x → H' x = H x
  vis : Ex (hid (SF F T) H) (hid (SF F T') H')
section
variable {pn : Option V} {F : Hs} {T T' T'' : Trs} {G G' H H' H'' : Hp} {σ : L2.St} {ρ : Env}
theorem Stp.refl : Stp F T H T H := ⟨fun _ _ => rfl, Ex.refl _⟩
theorem Stp.trans (a : Stp F T H T' H') (b : Stp F T' H' T'' H'') : Stp F T H T'' H'' := ⟨fun x h => (b.fr x h).trans (a.fr x h), a.vis.trans b.vis⟩
theorem Stp.ex (al : Al F H) (e : Ex H H') : Stp F T H T H' := ⟨fun x h => by
  cases q : H x with
  | none => exact absurd q (al x h)
  | some o => exact e x o q, hid_ex e⟩
theorem Cels.mv (e : Ex G G') : ∀ {vs : List V} {cs : List Cel} {B : List Addr}, (∀ x ∈ B, H' x = H x) → Cels G H vs cs B → Cels G' H' vs cs B
  | _, _, _, _, .nil => .nil
  | _, _, _, h, .dat r c => .dat (r.ex e) (Cels.mv e h c)
  | _, _, _, h, .sub hb r c => .sub ((h _ (List.mem_cons_self ..)).trans hb) (r.ex e) (Cels.mv e (fun x hx => h x (List.mem_cons_of_mem _ hx)) c)
theorem Own.mv (e : Ex G G') {v : V} {cs : List Cel} {A : List Addr} (h : ∀ x ∈ A, H' x = H x) (o : Own G H v cs A) : Own G' H' v cs A := by
  obtain ⟨a, vs, B, rfl, ha, c, rfl⟩ := o
  exact ⟨a, vs, B, rfl, (h a (List.mem_cons_self ..)).trans ha, c.mv e fun x hx => h x (List.mem_cons_of_mem _ hx), rfl⟩
theorem SlOk.mv (e : Ex G G') {o : Option V} {s : Sl} {A : List Addr} (h : ∀ x ∈ A, H' x = H x) (q : SlOk G H o s A) : SlOk G' H' o s A := by
  cases s with
  | un => exact q
  | dat d => obtain ⟨z, v, e1, r⟩ := q; exact ⟨z, v, e1, r.ex e⟩
  | own cs => obtain ⟨v, e1, r⟩ := q; exact ⟨v, e1, r.mv e h⟩
  | dic l => obtain ⟨v, e1, r⟩ := q; exact ⟨v, e1, r.mv e h⟩
theorem Cels.lst : ∀ {vs : List V} {cs : List Cel} {B : List Addr}, Cels G H vs cs B → ∀ x ∈ B, ∃ ws, H x = some (.lst ws)
  | _, _, _, .nil, x, h => nomatch h
  | _, _, _, .dat _ c, x, h => c.lst x h
  | _, _, _, .sub hb _ c, x, h => by
    rcases List.mem_cons.mp h with z | z
    · subst z; exact ⟨_, hb⟩
    · exact c.lst x z
theorem Own.lst {v : V} {cs : List Cel} {A : List Addr} (o : Own G H v cs A) : ∀ x ∈ A, ∃ ws, H x = some (.lst ws) := fun x h => by
  obtain ⟨a, vs, B, rfl, ha, c, rfl⟩ := o
  rcases List.mem_cons.mp h with z | z
  · subst z; exact ⟨_, ha⟩
  · exact c.lst x z
theorem Cels.length : ∀ {vs : List V} {cs : List Cel} {B : List Addr}, Cels G H vs cs B → vs.length = cs.length
  | _, _, _, .nil => rfl
  | _, _, _, .dat _ c => by rw [List.length_cons, List.length_cons, c.length]
  | _, _, _, .sub _ _ c => by rw [List.length_cons, List.length_cons, c.length]
/-- seen as data, where the addresses show -/
theorem Cels.rp (e : Ex G G') (hs : ∀ x ∈ B, G' x = H x) : ∀ {vs : List V} {cs : List Cel}, Cels G H vs cs B → RpAll G' vs (cs.map Cel.pd)
  | _, _, .nil => .nil
  | _, _, .dat r c => .cons (r.ex e) (c.rp e hs)
  | _, _, .sub hb r c => .cons (.lst ((hs _ (List.mem_cons_self ..)).trans hb) (r.ex e)) (c.rp e fun x hx => hs x (List.mem_cons_of_mem _ hx))
theorem Own.rp (e : Ex G G') {v : V} {cs : List Cel} {A : List Addr} (hs : ∀ x ∈ A, G' x = H x) (o : Own G H v cs A) : Rp G' v (.list (cs.map Cel.pd)) := by
  obtain ⟨a, vs, B, rfl, ha, c, rfl⟩ := o
  exact .lst ((hs a (List.mem_cons_self ..)).trans ha) (c.rp e fun x hx => hs x (List.mem_cons_of_mem _ hx))
theorem StOk.lst (st : StOk pn F T H σ ρ) {i : Nat} {x : Addr} (h : x ∈ T i) : ∃ ob, H x = some ob ∧ ∀ o u, ob ≠ .frz o u := by
  by_cases c : i < ρ.length
  · obtain ⟨o, _, q⟩ := st.sl i _ (List.getElem?_eq_getElem c)
    cases e : ρ[i] with
    | un => rw [e] at q; rw [show T i = [] from q] at h; cases h
    | dat d => rw [e] at q; rw [q.1] at h; cases h
    | own cs => rw [e] at q; obtain ⟨v, _, q⟩ := q; obtain ⟨ws, g⟩ := q.lst x h; exact ⟨_, g, fun o u z => nomatch z⟩
    | dic l =>
      rw [e] at q
      obtain ⟨v, _, a, ks, _, ha, _, hA⟩ := q
      rw [hA] at h
      have : x = a := by simpa using h
      rw [this]
      exact ⟨_, ha, fun o u z => nomatch z⟩
  · rw [st.out i (by omega)] at h; cases h
theorem StOk.als (st : StOk pn F T H σ ρ) : Al (SF F T) H := fun x h z => h.elim (fun h => st.al x h z) fun ⟨i, h⟩ => by
  obtain ⟨vs, e, _⟩ := st.lst h
  rw [z] at e
  cases e
theorem StOk.mv (st : StOk pn F T H σ ρ) (e : Ex (hid (SF F T) H) (hid (SF F T) H')) (h : ∀ i x, x ∈ T i → H' x = H x) (al : Al F H') : StOk pn F T H' σ ρ :=
  ⟨st.len, al, st.off, st.dis, st.nd, st.out, fun i s hi => let ⟨o, h1, h2⟩ := st.sl i s hi; ⟨o, h1, h2.mv e (h i)⟩, st.pin⟩
theorem StOk.ex (st : StOk pn F T H σ ρ) (e : Ex H H') : StOk pn F T H' σ ρ := st.mv (hid_ex e) (fun i x hx => by
  obtain ⟨vs, q, _⟩ := st.lst hx
  rw [q, e x _ q]) (st.al.ex e)
theorem StOk.vw (st : StOk pn F T H σ ρ) : En (hid F H) σ (vw ρ) := by
  refine ⟨by rw [st.len]; unfold Uv.vw; rw [List.length_map], fun i d hi => ?_⟩
  unfold Uv.vw at hi
  rw [List.getElem?_map] at hi
  cases q : ρ[i]? with
  | none => rw [q] at hi; cases hi
  | some s =>
    rw [q] at hi
    have hi : s.vw = some d := Option.some.inj hi
    obtain ⟨o, h1, h2⟩ := st.sl i s q
    cases s with
    | un => cases hi
    | dat d' =>
      cases hi
      obtain ⟨_, v, rfl, r⟩ := h2
      exact ⟨v, h1, r.ex (hid_sub fun x h => .inl h)⟩
    | own cs =>
      cases hi
      obtain ⟨v, rfl, r⟩ := h2
      exact ⟨v, h1, r.rp (hid_sub fun x h => .inl h) fun x hx => hid_out (st.off i x hx)⟩
    | dic l => cases hi
theorem StOk.mkd (st : StOk pn F T H σ ρ) : En (hid (SF F T) H) σ (Uv.mk ρ) := by
  refine ⟨by rw [st.len]; unfold Uv.mk; rw [List.length_map], fun i d hi => ?_⟩
  unfold Uv.mk at hi
  rw [List.getElem?_map] at hi
  cases q : ρ[i]? with
  | none => rw [q] at hi; cases hi
  | some s =>
    rw [q] at hi
    have hi : s.mk = some d := Option.some.inj hi
    obtain ⟨o, h1, h2⟩ := st.sl i s q
    cases s with
    | dat d' =>
      cases hi
      obtain ⟨_, v, rfl, r⟩ := h2
      exact ⟨v, h1, r⟩
    | _ => cases hi
/-! setting a slot -/
def setT (T : Trs) (i : Nat) (A : List Addr) : Trs := fun j => if j = i then A else T j
theorem setT_same {i : Nat} {A : List Addr} : setT T i A i = A := if_pos rfl
theorem setT_ne {i j : Nat} {A : List Addr} (h : j ≠ i) : setT T i A j = T j := if_neg h
theorem SF_setT_nil {i : Nat} : ∀ x, SF F (setT T i []) x → SF F T x := fun x h => h.elim .inl fun ⟨j, hj⟩ => .inr (by
  by_cases c : j = i
  · subst c; rw [setT_same] at hj; cases hj
  · rw [setT_ne c] at hj; exact ⟨j, hj⟩)
theorem StOk.drop (st : StOk pn F T H σ ρ) {i : Nat} {o : Option V} {s : Sl} (hi0 : i ≠ 0) (hs : SlOk (hid (SF F (setT T i [])) H) H o s []) : StOk pn F (setT T i []) H (σ.set i o) (ρ.set i s) ∧ Stp F T H (setT T i []) H := by
  have sub : Ex (hid (SF F T) H) (hid (SF F (setT T i [])) H) := hid_sub SF_setT_nil
  have mem : ∀ j x, x ∈ setT T i [] j → x ∈ T j ∧ j ≠ i := fun j x h => by
    by_cases c : j = i
    · subst c; rw [setT_same] at h; cases h
    · rw [setT_ne c] at h; exact ⟨h, c⟩
  refine ⟨⟨by rw [List.length_set, List.length_set]; exact st.len, st.al, fun j x h => st.off j x (mem j x h).1, fun j k x h h' => st.dis j k x (mem j x h).1 (mem k x h').1, fun j => ?_, fun j hj => ?_, fun j q hq => ?_, fun v hv => ?_⟩, ⟨fun _ _ => rfl, sub⟩⟩
  · by_cases c : j = i
    · subst c; rw [setT_same]; exact List.nodup_nil
    · rw [setT_ne c]; exact st.nd j
  · rw [List.length_set] at hj
    by_cases c : j = i
    · subst c; rw [setT_same]
    · rw [setT_ne c]; exact st.out j hj
  · by_cases c : i = j
    · subst c
      have hl : i < ρ.length := by
        have := (List.getElem?_eq_some_iff.mp hq).1
        simpa using this
      rw [List.getElem?_set_self hl] at hq
      cases hq
      rw [setT_same]
      exact ⟨o, List.getElem?_set_self (by rw [st.len]; exact hl), hs⟩
    · rw [List.getElem?_set_ne c] at hq
      obtain ⟨o', h1, h2⟩ := st.sl j q hq
      rw [List.getElem?_set_ne c, setT_ne (fun z => c z.symm)]
      exact ⟨o', h1, h2.mv sub fun _ _ => rfl⟩
  · rw [List.getElem?_set_ne hi0]
    exact st.pin v hv
theorem StOk.set (st : StOk pn F T H σ ρ) {i : Nat} (hi0 : i ≠ 0) {v : V} {d : PD} (r : Rp (hid (SF F T) H) v d) : StOk pn F (setT T i []) H (σ.set i (some v)) (ρ.set i (.dat d)) ∧ Stp F T H (setT T i []) H :=
  st.drop hi0 ⟨rfl, v, rfl, r.ex (hid_sub SF_setT_nil)⟩
/-- a new list, owned by a slot -/
theorem StOk.own {A : List Addr} (st : StOk pn (FL F A) T H σ ρ) {i : Nat} (hi0 : i ≠ 0) (hi : i < ρ.length) {v : V} {cs : List Cel} (o : Own (hid (SF (FL F A) T) H) H v cs A) (nd : A.Nodup) (off : ∀ x ∈ A, ¬ F x) :
    StOk pn F (setT T i A) H (σ.set i (some v)) (ρ.set i (.own cs)) ∧ Ex (hid (SF (FL F A) T) H) (hid (SF F (setT T i A)) H) := by
  have sub : Ex (hid (SF (FL F A) T) H) (hid (SF F (setT T i A)) H) := hid_sub fun x h => h.elim (fun h => .inl (.inl h)) fun ⟨j, hj⟩ => by
    by_cases c : j = i
    · subst c; rw [setT_same] at hj; exact .inl (.inr hj)
    · rw [setT_ne c] at hj; exact .inr ⟨j, hj⟩
  have mem : ∀ j x, x ∈ setT T i A j → (j = i ∧ x ∈ A) ∨ (j ≠ i ∧ x ∈ T j) := fun j x h => by
    by_cases c : j = i
    · subst c; rw [setT_same] at h; exact .inl ⟨rfl, h⟩
    · rw [setT_ne c] at h; exact .inr ⟨c, h⟩
  refine ⟨⟨by rw [List.length_set, List.length_set]; exact st.len, fun x h => st.al x (.inl h), fun j x h => ?_, fun j k x h h' => ?_, fun j => ?_, fun j hj => ?_, fun j q hq => ?_, fun v hv => ?_⟩, sub⟩
  · rcases mem j x h with ⟨_, h⟩ | ⟨_, h⟩
    · exact off x h
    · exact fun z => st.off j x h (.inl z)
  · rcases mem j x h with ⟨e, h⟩ | ⟨e, h⟩
    · rcases mem k x h' with ⟨e', h'⟩ | ⟨e', h'⟩
      · rw [e, e']
      · exact absurd (.inr h) (st.off k x h')
    · rcases mem k x h' with ⟨e', h'⟩ | ⟨e', h'⟩
      · exact absurd (.inr h') (st.off j x h)
      · exact st.dis j k x h h'
  · by_cases c : j = i
    · subst c; rw [setT_same]; exact nd
    · rw [setT_ne c]; exact st.nd j
  · rw [List.length_set] at hj
    rw [setT_ne (by omega)]
    exact st.out j hj
  · by_cases c : i = j
    · subst c
      rw [List.getElem?_set_self hi] at hq
      cases hq
      rw [setT_same]
      exact ⟨some v, List.getElem?_set_self (by rw [st.len]; exact hi), v, rfl, o.mv sub fun _ _ => rfl⟩
    · rw [List.getElem?_set_ne c] at hq
      obtain ⟨o', h1, h2⟩ := st.sl j q hq
      rw [List.getElem?_set_ne c, setT_ne (fun z => c z.symm)]
      exact ⟨o', h1, h2.mv sub fun _ _ => rfl⟩
  · rw [List.getElem?_set_ne hi0]
    exact st.pin v hv
/-- what was new becomes data -/
theorem StOk.thaw {A : List Addr} (st : StOk pn (FL F A) T H σ ρ) : StOk pn F T H σ ρ ∧ Ex (hid (SF (FL F A) T) H) (hid (SF F T) H) := by
  have sub : Ex (hid (SF (FL F A) T) H) (hid (SF F T) H) := hid_sub fun x h => h.elim (fun h => .inl (.inl h)) .inr
  exact ⟨⟨st.len, fun x h => st.al x (.inl h), fun i x h z => st.off i x h (.inl z), st.dis, st.nd, st.out, fun i s hi => let ⟨o, h1, h2⟩ := st.sl i s hi; ⟨o, h1, h2.mv sub fun _ _ => rfl⟩, st.pin⟩, sub⟩
/-- an owned slot's list is written, the lists within stand -/
theorem StOk.write (st : StOk pn F T H σ ρ) {i : Nat} {cs cs' : List Cel} {a : Addr} {vs' : List V} {B : List Addr} (hi : ρ[i]? = some (.own cs)) (hT : T i = a :: B) (hσ : σ[i]? = some (some (.ref a))) (hc : Cels (hid (SF F T) H) H vs' cs' B) :
    StOk pn F T (upd H a (.lst vs')) σ (ρ.set i (.own cs')) ∧ Stp F T H T (upd H a (.lst vs')) := by
  have ha : a ∈ T i := by rw [hT]; exact List.mem_cons_self ..
  have hab : a ∉ B := by have := st.nd i; rw [hT] at this; exact (List.nodup_cons.mp this).1
  have hS : SF F T a := .inr ⟨i, ha⟩
  have vis : Ex (hid (SF F T) H) (hid (SF F T) (upd H a (.lst vs'))) := fun x o h => by
    obtain ⟨c, h⟩ := hid_some h
    rw [hid_out c, upd_ne (fun z => c (by rw [z]; exact hS))]
    exact h
  have ne : ∀ x, x ≠ a → upd H a (.lst vs') x = H x := fun x h => upd_ne h
  refine ⟨⟨by rw [List.length_set]; exact st.len, fun x h => ?_, st.off, st.dis, st.nd, fun j hj => st.out j (by rw [List.length_set] at hj; exact hj), fun j q hq => ?_, st.pin⟩, ⟨fun x h => ne x fun z => st.off i a ha (by rw [← z]; exact h), vis⟩⟩
  · rw [ne x fun z => st.off i a ha (by rw [← z]; exact h)]
    exact st.al x h
  · by_cases c : i = j
    · subst c
      have hl : i < ρ.length := by
        have := (List.getElem?_eq_some_iff.mp hq).1
        simpa using this
      rw [List.getElem?_set_self hl] at hq
      cases hq
      exact ⟨_, hσ, .ref a, rfl, a, vs', B, rfl, upd_same, hc.mv vis fun x hx => ne x fun z => hab (by rw [← z]; exact hx), hT⟩
    · rw [List.getElem?_set_ne c] at hq
      obtain ⟨o', h1, h2⟩ := st.sl j q hq
      exact ⟨o', h1, h2.mv vis fun x hx => ne x fun z => c (st.dis i j a ha (by rw [← z]; exact hx))⟩
theorem StOk.at_own (st : StOk pn F T H σ ρ) {i : Nat} {cs : List Cel} (hi : ρ[i]? = some (.own cs)) : ∃ a vs B, σ[i]? = some (some (.ref a)) ∧ H a = some (.lst vs) ∧ Cels (hid (SF F T) H) H vs cs B ∧ T i = a :: B := by
  obtain ⟨o, h1, v, rfl, a, vs, B, rfl, h2, h3, h4⟩ := st.sl i _ hi
  exact ⟨a, vs, B, h1, h2, h3, h4⟩
end
/-! ### data without lists -/
mutual
def flat : PD → Bool
  | .none => true
  | .bool _ => true
  | .int _ => true
  | .str _ => true
  | .tuple ds => flats ds
  | .list _ => false
  | .dict _ => false
def flats : List PD → Bool
  | [] => true
  | d :: ds => flat d && flats ds
end
mutual
theorem Rp.flat {G G' : Hp} (e : ∀ x o u, G x = some (.frz o u) → G' x = some (.frz o u)) : ∀ {v : V} {d : PD}, Rp G v d → flat d = true → Rp G' v d
  | _, _, .non, _ => .non
  | _, _, .bl b, _ => .bl b
  | _, _, .int i, _ => .int i
  | _, _, .str x, _ => .str x
  | _, _, .lst h r, f => by simp [Uv.flat] at f
  | _, _, .tup h p r, f => .tup (e _ _ _ h) p (RpAll.flat e r (by simpa [Uv.flat] using f))
  | _, _, .dic h, f => by simp [Uv.flat] at f
  | _, _, .scr h r, f => by simp [Uv.flat] at f
theorem RpAll.flat {G G' : Hp} (e : ∀ x o u, G x = some (.frz o u) → G' x = some (.frz o u)) : ∀ {vs : List V} {ds : List PD}, RpAll G vs ds → flats ds = true → RpAll G' vs ds
  | _, _, .nil, _ => .nil
  | _, _, .cons h r, f => by
    simp only [flats, Bool.and_eq_true] at f
    exact .cons (Rp.flat e h f.1) (RpAll.flat e r f.2)
end
theorem StOk.frz {pn : Option V} {F : Hs} {T : Trs} {H H' : Hp} {σ : L2.St} {ρ : Env} (st : StOk pn F T H σ ρ) (e : Ex H H') : ∀ x o u, hid F H' x = some (.frz o u) → hid (SF F T) H' x = some (.frz o u) := fun x o u h => by
  obtain ⟨c, h⟩ := hid_some h
  rw [hid_out]
  · exact h
  · rintro (z | ⟨i, z⟩)
    · exact c z
    · obtain ⟨vs, q, n⟩ := st.lst z
      rw [e x _ q] at h
      exact n _ _ (Option.some.inj h)
end Uv

namespace Uv
open PySem PySem.Spec PyProof.Rows L2
open Evl (Ex)
variable [kk : KK]
/-! ### expressions over a state -/
abbrev XW := Env → Option (PD × Env)
abbrev XWT := Env → Option (Bool × Env)
abbrev XWA := Env → Option (List PD × Env)
abbrev XWO := Env → Option (List Cel × Env)
def SW (te : TE) (w : XW) : Prop := ∀ pn F T H σ ρ d ρ', StOk pn F T H σ ρ → w ρ = some (d, ρ') → ∀ Q : VK, (∀ v T' H', StOk pn F T' H' σ ρ' → Stp F T H T' H' → Rp (hid (SF F T') H') v d → Q v H') → te σ H Q
def SWT (tt : TT) (w : XWT) : Prop := ∀ pn F T H σ ρ b ρ', StOk pn F T H σ ρ → w ρ = some (b, ρ') → ∀ Q : Bool → Hp → Prop, (∀ T' H', StOk pn F T' H' σ ρ' → Stp F T H T' H' → Q b H') → tt σ H Q
def SWA (ta : TA) (w : XWA) : Prop := ∀ pn F T H σ ρ ds ρ', StOk pn F T H σ ρ → w ρ = some (ds, ρ') → ∀ Q : List V → Hp → Prop, (∀ vs T' H', StOk pn F T' H' σ ρ' → Stp F T H T' H' → RpAll (hid (SF F T') H') vs ds → Q vs H') → ta σ H Q
/-- a new list: its addresses A stand in the frame -/
def SWO (te : TE) (w : XWO) : Prop := ∀ pn F T H σ ρ cs ρ', StOk pn F T H σ ρ → w ρ = some (cs, ρ') → ∀ Q : VK, (∀ v A T' H', StOk pn (FL F A) T' H' σ ρ' → A.Nodup → (∀ x ∈ A, ¬ F x) → (∀ x, F x → H' x = H x) → Ex (hid (SF F T) H) (hid (SF (FL F A) T') H') → Own (hid (SF (FL F A) T') H') H' v cs A → Q v H') → te σ H Q
def wM (x : XE) : XW := fun ρ => (x (mk ρ)).bind fun d => some (d, ρ)
def wV (x : XE) : XW := fun ρ => (x (vw ρ)).bind fun d => if flat d = true then some (d, ρ) else none
def wMT (x : XT) : XWT := fun ρ => (x (mk ρ)).bind fun d => some (d, ρ)
def wVT (x : XT) : XWT := fun ρ => (x (vw ρ)).bind fun d => some (d, ρ)
def wMA (x : XA) : XWA := fun ρ => (x (mk ρ)).bind fun d => some (d, ρ)
def wNil : XWA := fun ρ => some ([], ρ)
def wCons (a : XW) (as : XWA) : XWA := fun ρ => (a ρ).bind fun x => (as x.2).bind fun xs => some (x.1 :: xs.1, xs.2)
def wOp (f : PD → PD → Option PD) (a b : XW) : XW := fun ρ => (a ρ).bind fun x => (b x.2).bind fun y => (f x.1 y.1).bind fun z => some (z, y.2)
def wUn (f : PD → Option PD) (a : XW) : XW := fun ρ => (a ρ).bind fun x => (f x.1).bind fun z => some (z, x.2)
def wTup (as : XWA) : XW := fun ρ => (as ρ).bind fun x => if x.1.length ≤ 100000 then some (.tuple x.1, x.2) else none
def wLst (as : XWA) : XW := fun ρ => (as ρ).bind fun x => if x.1.length ≤ 100000 then some (.list x.1, x.2) else none
def wCB (f : List PD → Option PD) (as : XWA) : XW := fun ρ => (as ρ).bind fun x => (f x.1).bind fun z => some (z, x.2)
def wB (a : XW) : XWT := fun ρ => (a ρ).bind fun x => (isB x.1).bind fun b => some (b, x.2)
def wIf (c : XWT) (a b : XW) : XW := fun ρ => (c ρ).bind fun k => if k.1 = true then a k.2 else b k.2
def wTAnd (a b : XWT) : XWT := fun ρ => (a ρ).bind fun c => if c.1 = true then b c.2 else some (false, c.2)
def wTOr (a b : XWT) : XWT := fun ρ => (a ρ).bind fun c => if c.1 = true then some (true, c.2) else b c.2
def wTNot (a : XWT) : XWT := fun ρ => (a ρ).bind fun c => some (!c.1, c.2)
def wAnd (a b : XW) : XW := fun ρ => (wB a ρ).bind fun c => if c.1 = true then b c.2 else some (.bool false, c.2)
def wOr (a b : XW) : XW := fun ρ => (wB a ρ).bind fun c => if c.1 = true then some (.bool true, c.2) else b c.2
def wNot (a : XW) : XW := fun ρ => (wB a ρ).bind fun c => some (.bool (!c.1), c.2)
section
variable {ta tb te : TE} {t u : TT} {ts : TA} {a b w : XW} {p q : XWT} {as : XWA} {r : R2} {f : PD → PD → Option PD} {x : XE}
theorem sw_M (h : SE te x) : SW te (wM x) := fun pn F T H σ ρ d ρ' st e Q q => by
  obtain ⟨z, h1, h2⟩ := bind_some e
  cases h2
  exact h _ _ h1 (SF F T) σ H st.als st.mkd Q fun v H2 e2 rv => q v T H2 (st.ex e2) (Stp.ex st.al e2) rv
theorem sw_V (h : SE te x) : SW te (wV x) := fun pn F T H σ ρ d ρ' st e Q q => by
  obtain ⟨z, h1, h2⟩ := bind_some e
  by_cases c : flat z = true
  · rw [if_pos c] at h2
    cases h2
    exact h _ _ h1 F σ H st.al st.vw Q fun v H2 e2 rv => q v T H2 (st.ex e2) (Stp.ex st.al e2) (rv.flat (st.frz e2) c)
  · rw [if_neg c] at h2; cases h2
theorem swt_M {x : XT} (h : ST t x) : SWT t (wMT x) := fun pn F T H σ ρ d ρ' st e Q q => by
  obtain ⟨z, h1, h2⟩ := bind_some e
  cases h2
  exact h _ _ h1 (SF F T) σ H st.als st.mkd Q fun H2 e2 => q T H2 (st.ex e2) (Stp.ex st.al e2)
theorem swt_V {x : XT} (h : ST t x) : SWT t (wVT x) := fun pn F T H σ ρ d ρ' st e Q q => by
  obtain ⟨z, h1, h2⟩ := bind_some e
  cases h2
  exact h _ _ h1 F σ H st.al st.vw Q fun H2 e2 => q T H2 (st.ex e2) (Stp.ex st.al e2)
theorem swa_M {x : XA} (h : SA ts x) : SWA ts (wMA x) := fun pn F T H σ ρ d ρ' st e Q q => by
  obtain ⟨z, h1, h2⟩ := bind_some e
  cases h2
  exact h _ _ h1 (SF F T) σ H st.als st.mkd Q fun v H2 e2 rv => q v T H2 (st.ex e2) (Stp.ex st.al e2) rv
theorem swa_nil : SWA tNil wNil := fun pn F T H σ ρ d ρ' st e Q q => by cases e; exact q [] T H st Stp.refl .nil
theorem swa_cons (ha : SW ta a) (hs : SWA ts as) : SWA (tCons ta ts) (wCons a as) := fun pn F T H σ ρ d ρ' st e Q q => by
  obtain ⟨⟨x, ρ1⟩, h1, e⟩ := bind_some e
  obtain ⟨⟨xs, ρ2⟩, h2, e⟩ := bind_some e
  cases e
  exact ha pn F T H σ ρ x ρ1 st h1 _ fun v T1 H1 st1 s1 rv => hs pn F T1 H1 σ ρ1 xs ρ2 st1 h2 _ fun vs T2 H2 st2 s2 rs => q (v :: vs) T2 H2 st2 (s1.trans s2) (.cons (rv.ex s2.vis) rs)
theorem sw_op (hr : SO r f) (ha : SW ta a) (hb : SW tb b) : SW (tOp r ta tb) (wOp f a b) := fun pn F T H σ ρ d ρ' st e Q q => by
  obtain ⟨⟨x, ρ1⟩, h1, e⟩ := bind_some e
  obtain ⟨⟨y, ρ2⟩, h2, e⟩ := bind_some e
  obtain ⟨z, h3, e⟩ := bind_some e
  cases e
  exact ha pn F T H σ ρ x ρ1 st h1 _ fun v T1 H1 st1 s1 rv => hb pn F T1 H1 σ ρ1 y ρ2 st1 h2 _ fun w T2 H2 st2 s2 rw' =>
    hr x y d h3 (SF F T2) H2 v w st2.als (rv.ex s2.vis) rw' Q fun z H3 e3 rz => q z T2 H3 (st2.ex e3) ((s1.trans s2).trans (Stp.ex st2.al e3)) rz
theorem sw_un {r : V → Hp → VK → Prop} {f : PD → Option PD} (hr : SU r f) (ha : SW ta a) : SW (tUn r ta) (wUn f a) := fun pn F T H σ ρ d ρ' st e Q q => by
  obtain ⟨⟨x, ρ1⟩, h1, e⟩ := bind_some e
  obtain ⟨z, h3, e⟩ := bind_some e
  cases e
  exact ha pn F T H σ ρ x ρ1 st h1 _ fun v T1 H1 st1 s1 rv => hr x d h3 (SF F T1) H1 v st1.als rv Q fun z H3 e3 rz => q z T1 H3 (st1.ex e3) (s1.trans (Stp.ex st1.al e3)) rz
theorem sw_tup (hs : SWA ts as) : SW (tTupF ts) (wTup as) := fun pn F T H σ ρ d ρ' st e Q q => by
  obtain ⟨⟨xs, ρ1⟩, h1, e⟩ := bind_some e
  by_cases hl : xs.length ≤ 100000
  · rw [if_pos hl] at e
    cases e
    exact hs pn F T H σ ρ xs _ st h1 _ fun vs T1 H1 st1 s1 rv => ⟨by rw [rv.length]; exact Evl.sz_of hl, fun p o hp pl => q _ T1 _ (st1.ex (Ex.new hp)) (s1.trans (Stp.ex st1.al (Ex.new hp))) (.tup (new_ok st1.als hp) pl (rv.ex (hid_ex (Ex.new hp))))⟩
  · rw [if_neg hl] at e; cases e
theorem sw_lst (hs : SWA ts as) : SW (tLst ts) (wLst as) := fun pn F T H σ ρ d ρ' st e Q q => by
  obtain ⟨⟨xs, ρ1⟩, h1, e⟩ := bind_some e
  by_cases hl : xs.length ≤ 100000
  · rw [if_pos hl] at e
    cases e
    exact hs pn F T H σ ρ xs _ st h1 _ fun vs T1 H1 st1 s1 rv => ⟨by rw [rv.length]; exact Evl.sz_of hl, fun p hp => q _ T1 _ (st1.ex (Ex.new hp)) (s1.trans (Stp.ex st1.al (Ex.new hp))) (.lst (new_ok st1.als hp) (rv.ex (hid_ex (Ex.new hp))))⟩
  · rw [if_neg hl] at e; cases e
theorem sw_cb {r : List V → Hp → VK → Prop} {f : List PD → Option PD} (hr : SC r f) (hs : SWA ts as) : SW (tCB r ts) (wCB f as) := fun pn F T H σ ρ d ρ' st e Q q => by
  obtain ⟨⟨xs, ρ1⟩, h1, e⟩ := bind_some e
  obtain ⟨z, h3, e⟩ := bind_some e
  cases e
  exact hs pn F T H σ ρ xs _ st h1 _ fun vs T1 H1 st1 s1 rv => hr xs d h3 (SF F T1) H1 vs st1.als rv Q fun z H3 e3 rz => q z T1 H3 (st1.ex e3) (s1.trans (Stp.ex st1.al e3)) rz
theorem wB_some {ρ ρ' : Env} {c : Bool} (h : wB a ρ = some (c, ρ')) : a ρ = some (.bool c, ρ') := by
  obtain ⟨⟨x, ρ1⟩, h1, e⟩ := bind_some h
  obtain ⟨b, h2, e⟩ := bind_some e
  have z := isB_eq h2
  cases e
  subst z
  exact h1
theorem swt_B (ha : SW ta a) : SWT (tB ta) (wB a) := fun pn F T H σ ρ c ρ' st e Q q =>
  ha pn F T H σ ρ _ ρ' st (wB_some e) _ fun v T1 H1 st1 s1 rv => by cases rv; exact ⟨c, rfl, q T1 H1 st1 s1⟩
theorem swt_test (ha : SW ta a) : SWT (tTest ta) (wB a) := fun pn F T H σ ρ c ρ' st e Q q =>
  ha pn F T H σ ρ _ ρ' st (wB_some e) _ fun v T1 H1 st1 s1 rv => by cases rv; exact ⟨c, rfl, q T1 H1 st1 s1⟩
theorem sw_if (ht : SWT t p) (ha : SW ta a) (hb : SW tb b) : SW (tIf t ta tb) (wIf p a b) := fun pn F T H σ ρ d ρ' st e Q q => by
  obtain ⟨⟨c, ρ1⟩, h1, e⟩ := bind_some e
  refine ht pn F T H σ ρ c ρ1 st h1 _ fun T1 H1 st1 s1 => ?_
  cases c with
  | true => exact ha pn F T1 H1 σ ρ1 d ρ' st1 e Q fun v T2 H2 st2 s2 rv => q v T2 H2 st2 (s1.trans s2) rv
  | false => exact hb pn F T1 H1 σ ρ1 d ρ' st1 e Q fun v T2 H2 st2 s2 rv => q v T2 H2 st2 (s1.trans s2) rv
theorem swt_not (ht : SWT t p) : SWT (tNot t) (wTNot p) := fun pn F T H σ ρ c ρ' st e Q q => by
  obtain ⟨⟨c, ρ1⟩, h1, e⟩ := bind_some e
  cases e
  exact ht pn F T H σ ρ c _ st h1 _ fun T1 H1 st1 s1 => q T1 H1 st1 s1
theorem swt_and (ht : SWT t p) (hu : SWT u q) : SWT (tAnd t u) (wTAnd p q) := fun pn F T H σ ρ c ρ' st e Q k => by
  obtain ⟨⟨c, ρ1⟩, h1, e⟩ := bind_some e
  refine ht pn F T H σ ρ c ρ1 st h1 _ fun T1 H1 st1 s1 => ?_
  cases c with
  | true => exact hu pn F T1 H1 σ ρ1 _ ρ' st1 e Q fun T2 H2 st2 s2 => k T2 H2 st2 (s1.trans s2)
  | false => cases e; exact k T1 H1 st1 s1
theorem swt_or (ht : SWT t p) (hu : SWT u q) : SWT (tOr t u) (wTOr p q) := fun pn F T H σ ρ c ρ' st e Q k => by
  obtain ⟨⟨c, ρ1⟩, h1, e⟩ := bind_some e
  refine ht pn F T H σ ρ c ρ1 st h1 _ fun T1 H1 st1 s1 => ?_
  cases c with
  | true => cases e; exact k T1 H1 st1 s1
  | false => exact hu pn F T1 H1 σ ρ1 _ ρ' st1 e Q fun T2 H2 st2 s2 => k T2 H2 st2 (s1.trans s2)
theorem sw_and (ha : SW ta a) (hb : SW tb b) : SW (tAndV ta tb) (wAnd a b) := fun pn F T H σ ρ d ρ' st e Q q => by
  obtain ⟨⟨c, ρ1⟩, h1, e⟩ := bind_some e
  refine ha pn F T H σ ρ _ ρ1 st (wB_some h1) _ fun v T1 H1 st1 s1 rv => ?_
  cases rv
  refine ⟨c, rfl, ?_⟩
  cases c with
  | true => exact hb pn F T1 H1 σ ρ1 d ρ' st1 e Q fun v T2 H2 st2 s2 rv => q v T2 H2 st2 (s1.trans s2) rv
  | false => cases e; exact q _ T1 H1 st1 s1 (.bl false)
theorem sw_or (ha : SW ta a) (hb : SW tb b) : SW (tOrV ta tb) (wOr a b) := fun pn F T H σ ρ d ρ' st e Q q => by
  obtain ⟨⟨c, ρ1⟩, h1, e⟩ := bind_some e
  refine ha pn F T H σ ρ _ ρ1 st (wB_some h1) _ fun v T1 H1 st1 s1 rv => ?_
  cases rv
  refine ⟨c, rfl, ?_⟩
  cases c with
  | true => cases e; exact q _ T1 H1 st1 s1 (.bl true)
  | false => exact hb pn F T1 H1 σ ρ1 d ρ' st1 e Q fun v T2 H2 st2 s2 rv => q v T2 H2 st2 (s1.trans s2) rv
theorem sw_not (ha : SW ta a) : SW (tNotV ta) (wNot a) := fun pn F T H σ ρ d ρ' st e Q q => by
  obtain ⟨⟨c, ρ1⟩, h1, e⟩ := bind_some e
  cases e
  refine ha pn F T H σ ρ _ _ st (wB_some h1) _ fun v T1 H1 st1 s1 rv => ?_
  cases rv
  exact ⟨c, rfl, q _ T1 H1 st1 s1 (.bl _)⟩
end
/-! ### calls -/
/-- a def that leaves all as it stood -/
def spF (f : List PD → Option PD) : Sp := fun vs H Q _ => ∃ S ds d, Al S H ∧ RpAll (hid S H) vs ds ∧ f ds = some d ∧ ∀ v H2, Ex H H2 → Rp (hid S H2) v d → Q v H2
theorem se_call {f : List PD → Option PD} {ts : TA} {as : XA} (hs : SA ts as) : SE (tCall (spF f) [] E0 ts) (xCB f as) := fun ρ d h S σ H al en Q q => by
  obtain ⟨ds, h1, h⟩ := bind_some h
  exact hs ρ ds h1 S σ H al en _ fun vs H1 e1 rv => ⟨S, ds, d, al.ex e1, by rw [List.append_nil]; exact rv, h, fun v H2 e2 r2 => q v H2 (e1.trans e2) r2⟩
theorem sw_call {f : List PD → Option PD} {ts : TA} {as : XWA} (hs : SWA ts as) : SW (tCall (spF f) [] E0 ts) (wCB f as) := fun pn F T H σ ρ d ρ' st e Q q => by
  obtain ⟨⟨xs, ρ1⟩, h1, e⟩ := bind_some e
  obtain ⟨z, h3, e⟩ := bind_some e
  cases e
  exact hs pn F T H σ ρ xs _ st h1 _ fun vs T1 H1 st1 s1 rv => ⟨SF F T1, xs, d, st1.als, by rw [List.append_nil]; exact rv, h3, fun v H2 e2 r2 => q v T1 H2 (st1.ex e2) (s1.trans (Stp.ex st1.al e2)) r2⟩
/-- a def whose first argument is a list that it may write -/
def spW (g : List Cel → List PD → Option (PD × List Cel)) : Sp := fun vs H Q _ => ∃ (F : Hs) (a : Addr) (B : List Addr) (cs : List Cel) (ws : List V) (ds : List PD) (d : PD) (cs' : List Cel), vs = .ref a :: ws ∧ Al F H ∧ (∀ x ∈ a :: B, ¬ F x) ∧ (a :: B).Nodup ∧
  Own (hid (FL F (a :: B)) H) H (.ref a) cs (a :: B) ∧ RpAll (hid (FL F (a :: B)) H) ws ds ∧ g cs ds = some (d, cs') ∧
  ∀ v B' H', (∀ x, F x → H' x = H x) → Ex (hid (FL F (a :: B)) H) (hid (FL F (a :: B')) H') → (∀ x ∈ a :: B', ¬ F x) → (a :: B').Nodup → Own (hid (FL F (a :: B')) H') H' (.ref a) cs' (a :: B') → Rp (hid (FL F (a :: B')) H') v d → Q v H'
def ownAt (ρ : Env) (i : Nat) : Option (List Cel) := match ρ[i]? with
  | some (.own cs) => some cs
  | _ => none
theorem ownAt_eq {ρ : Env} {i : Nat} {cs : List Cel} (h : ownAt ρ i = some cs) : ρ[i]? = some (.own cs) := by
  unfold ownAt at h
  split at h
  · rename_i e
    cases h
    exact e
  · cases h
def wCallK (i : Nat) (g : List Cel → List PD → Option (PD × List Cel)) (as : XWA) : XW := fun ρ => (ownAt ρ i).bind fun _ => (as ρ).bind fun x => (ownAt x.2 i).bind fun cs => (g cs x.1).bind fun y => some (y.1, x.2.set i (.own y.2))
theorem sw_callK {i : Nat} {g : List Cel → List PD → Option (PD × List Cel)} {ts : TA} {as : XWA} (hs : SWA ts as) : SW (tCall (spW g) [] E0 (tCons (tVar i) ts)) (wCallK i g as) := fun pn F T H σ ρ d ρ' st e Q q => by
  obtain ⟨cs0, h0, e⟩ := bind_some e
  obtain ⟨⟨xs, ρ1⟩, h1, e⟩ := bind_some e
  obtain ⟨cs, hi, e⟩ := bind_some e
  obtain ⟨⟨z, cs'⟩, h3, e⟩ := bind_some e
  have hi : ρ1[i]? = some (.own cs) := ownAt_eq hi
  have e : some (z, ρ1.set i (.own cs')) = some (d, ρ') := e
  obtain ⟨rfl, rfl⟩ := Prod.mk.inj (Option.some.inj e)
  -- the slot holds the same address all along
  have key : ∀ (vs : List V) (T1 : Trs) (H1 : Hp), StOk pn F T1 H1 σ ρ1 → Stp F T H T1 H1 → RpAll (hid (SF F T1) H1) vs xs → ∀ a : Addr, σ[i]? = some (some (.ref a)) → spW g (.ref a :: vs) H1 Q E0 := by
    intro vs T1 H1 st1 s1 rv a ha
    obtain ⟨a', us, B, ha', hl, hc, hT⟩ := st1.at_own hi
    have ea : a' = a := by rw [ha'] at ha; cases ha; rfl
    subst ea
    obtain ⟨F1, hF1⟩ : ∃ F1 : Hs, F1 = fun x => F x ∨ ∃ j, j ≠ i ∧ x ∈ T1 j := ⟨_, rfl⟩
    have eqv : ∀ x, FL F1 (a' :: B) x ↔ SF F T1 x := fun x => by
      rw [hF1]
      constructor
      · rintro ((h | ⟨j, _, h⟩) | h)
        · exact .inl h
        · exact .inr ⟨j, h⟩
        · exact .inr ⟨i, by rw [hT]; exact h⟩
      · rintro (h | ⟨j, h⟩)
        · exact .inl (.inl h)
        · by_cases c : j = i
          · subst c; rw [hT] at h; exact .inr h
          · exact .inl (.inr ⟨j, c, h⟩)
    have eh : hid (FL F1 (a' :: B)) H1 = hid (SF F T1) H1 := hid_eq eqv
    refine ⟨F1, a', B, cs, vs, xs, z, cs', rfl, ?_, ?_, by rw [← hT]; exact st1.nd i, ⟨a', us, B, rfl, hl, by rw [eh]; exact hc, rfl⟩, by rw [eh]; exact rv, h3, fun v B' H' fr vis off nd ow rv' => ?_⟩
    · intro x hx
      rw [hF1] at hx
      exact st1.als x (hx.elim .inl fun ⟨j, _, h⟩ => .inr ⟨j, h⟩)
    · intro x hx hx2
      rw [hF1] at hx2
      have hx3 : x ∈ T1 i := by rw [hT]; exact hx
      rcases hx2 with h | ⟨j, c, h⟩
      · exact st1.off i x hx3 h
      · exact c (st1.dis j i x h hx3)
    · have eqv' : ∀ x, FL F1 (a' :: B') x ↔ SF F (setT T1 i (a' :: B')) x := fun x => by
        rw [hF1]
        constructor
        · rintro ((h | ⟨j, c, h⟩) | h)
          · exact .inl h
          · exact .inr ⟨j, by rw [setT_ne c]; exact h⟩
          · exact .inr ⟨i, by rw [setT_same]; exact h⟩
        · rintro (h | ⟨j, h⟩)
          · exact .inl (.inl h)
          · by_cases c : j = i
            · subst c; rw [setT_same] at h; exact .inr h
            · rw [setT_ne c] at h; exact .inl (.inr ⟨j, c, h⟩)
      have eh' : hid (FL F1 (a' :: B')) H' = hid (SF F (setT T1 i (a' :: B'))) H' := hid_eq eqv'
      rw [eh, eh'] at vis
      rw [eh'] at ow rv'
      have il : i < ρ1.length := (List.getElem?_eq_some_iff.mp hi).1
      refine q v (setT T1 i (a' :: B')) H' ⟨by rw [List.length_set]; exact st1.len, fun x hx => ?_, fun j x h => ?_, fun j k x h h' => ?_, fun j => ?_, fun j hj => ?_, fun j s hs => ?_, st1.pin⟩ (s1.trans ⟨fun x hx => fr x (by rw [hF1]; exact .inl hx), vis⟩) rv'
      · rw [fr x (by rw [hF1]; exact .inl hx)]
        exact st1.al x hx
      · by_cases c : j = i
        · subst c
          rw [setT_same] at h
          exact fun z => off x h (by rw [hF1]; exact .inl z)
        · rw [setT_ne c] at h
          exact st1.off j x h
      · by_cases c : j = i
        · subst c
          rw [setT_same] at h
          by_cases c2 : k = j
          · exact c2.symm
          · rw [setT_ne c2] at h'
            exact absurd (show F1 x by rw [hF1]; exact .inr ⟨k, c2, h'⟩) (off x h)
        · rw [setT_ne c] at h
          by_cases c2 : k = i
          · subst c2
            rw [setT_same] at h'
            exact absurd (show F1 x by rw [hF1]; exact .inr ⟨j, c, h⟩) (off x h')
          · rw [setT_ne c2] at h'
            exact st1.dis j k x h h'
      · by_cases c : j = i
        · subst c; rw [setT_same]; exact nd
        · rw [setT_ne c]; exact st1.nd j
      · rw [List.length_set] at hj
        rw [setT_ne (by omega)]
        exact st1.out j hj
      · by_cases c : i = j
        · subst c
          rw [List.getElem?_set_self il] at hs
          cases hs
          rw [setT_same]
          exact ⟨_, ha', _, rfl, ow⟩
        · rw [List.getElem?_set_ne c] at hs
          obtain ⟨o, h1, h2⟩ := st1.sl j s hs
          rw [setT_ne (fun z => c z.symm)]
          exact ⟨o, h1, h2.mv vis fun x hx => fr x (by rw [hF1]; exact .inr ⟨j, fun z => c z.symm, hx⟩)⟩
  obtain ⟨a, _, _, ha, _⟩ := st.at_own (ownAt_eq h0)
  refine ⟨.ref a, ha, hs pn F T H σ ρ xs ρ1 st h1 _ fun vs T1 H1 st1 s1 rv => ?_⟩
  show spW g (V.ref a :: vs ++ []) H1 Q E0
  rw [List.append_nil]
  exact key vs T1 H1 st1 s1 rv a ha
end Uv

namespace Uv
open PySem PySem.Spec PyProof.Rows L2
open Evl (Ex)
variable [kk : KK]
/-! ### what is walked -/
def Loose (H : Hp) (v : V) (x : PD) : Prop := ∃ a xs ds, v = .ref a ∧ H a = some (.tup xs) ∧ RpAll H xs ds ∧ x = .tuple ds
def Rk (b : Bool) (H : Hp) (v : V) (x : PD) : Prop := Rp H v x ∨ (b = true ∧ Loose H v x)
def Wk (b : Bool) (S : Hs) (J : It) (xs : List PD) (H : Hp) : Prop := ∀ S' H2, Ex (hid S H) (hid S' H2) → Al S' H2 → J.stop xs.length H2 ∧ ∀ i x, xs[i]? = some x → J.go i H2 ∧ ∀ v H3, J.yld i H2 v H3 → Ex H2 H3 ∧ Rk b (hid S' H3) v x
def pairsD (xs : List PD) : List PD := xs.zipIdx.map fun p => .tuple [.int (p.2 : Nat), p.1]
def zipD (xs ys : List PD) : List PD := List.zipWith (fun x y => .tuple [x, y]) xs ys
section
variable {S : Hs} {H : Hp}
theorem wk_tup {a : Addr} {o : Obj} {vs : List V} {xs : List PD} (ha : hid S H a = some (fz o vs)) (ra : RpAll (hid S H) vs xs) : Wk false S (Itt K a) xs H := fun S' H2 e2 al2 => by
  have sq : SqT K H2 a vs := .inl (.inr ⟨_, hid_le _ _ (e2 _ _ ha)⟩)
  have ra2 := ra.ex e2
  refine ⟨⟨_, sq, Nat.le_of_eq ra2.length⟩, fun i x hx => ?_⟩
  obtain ⟨v, hv, rv⟩ := ra2.get hx
  refine ⟨⟨_, v, sq, hv⟩, fun w H3 y => ?_⟩
  obtain ⟨y1, y2⟩ := y
  have e := y2 _ sq
  rw [hv] at e
  cases e
  subst y1
  exact ⟨Ex.refl _, .inl rv⟩
theorem wk_lst {a : Addr} {vs : List V} {xs : List PD} (ha : hid S H a = some (.lst vs)) (ra : RpAll (hid S H) vs xs) : Wk false S (Itl K a) xs H := fun S' H2 e2 al2 => by
  have sq : SqL K H2 a vs := .inl (.inl (hid_le _ _ (e2 _ _ ha)))
  have ra2 := ra.ex e2
  refine ⟨⟨_, sq, Nat.le_of_eq ra2.length⟩, fun i x hx => ?_⟩
  obtain ⟨v, hv, rv⟩ := ra2.get hx
  refine ⟨⟨_, v, sq, hv⟩, fun w H3 y => ?_⟩
  obtain ⟨y1, y2⟩ := y
  have e := y2 _ sq
  rw [hv] at e
  cases e
  subst y1
  exact ⟨Ex.refl _, .inl rv⟩
theorem wk_scr {a : Addr} {vs : List V} {xs : List PD} (ha : SqL K (hid S H) a vs) (ra : RpAll (hid S H) vs xs) : Wk false S (Itl K a) xs H := fun S' H2 e2 al2 => by
  have sq : SqL K H2 a vs := sqx hid_le (sqx e2 ha)
  have ra2 := ra.ex e2
  refine ⟨⟨_, sq, Nat.le_of_eq ra2.length⟩, fun i x hx => ?_⟩
  obtain ⟨v, hv, rv⟩ := ra2.get hx
  refine ⟨⟨_, v, sq, hv⟩, fun w H3 y => ?_⟩
  obtain ⟨y1, y2⟩ := y
  have e := y2 _ sq
  rw [hv] at e
  cases e
  subst y1
  exact ⟨Ex.refl _, .inl rv⟩
theorem wk_rng {lo : Int} {n : Nat} : Wk false S (Itr lo n) ((List.range n).map fun k => .int (lo + (k : Nat))) H := fun S' H2 e2 al2 => by
  refine ⟨by show n ≤ _; simp, fun i x hx => ?_⟩
  rw [List.getElem?_map] at hx
  cases qq : (List.range n)[i]? with
  | none => rw [qq] at hx; cases hx
  | some k =>
    rw [qq] at hx
    obtain ⟨hi, ek⟩ := List.getElem?_eq_some_iff.mp qq
    have ek2 : i = k := by simpa using ek
    subst ek2
    cases hx
    refine ⟨by show i < n; simpa using hi, fun v H3 y => ?_⟩
    obtain ⟨y1, y2⟩ := y
    subst y1 y2
    exact ⟨Ex.refl _, .inl (.int _)⟩
theorem pairs_get {xs : List PD} {i : Nat} {x : PD} (hx : (pairsD xs)[i]? = some x) : ∃ y, xs[i]? = some y ∧ x = .tuple [.int (i : Nat), y] := by
  unfold pairsD at hx
  rw [List.getElem?_map, List.getElem?_zipIdx] at hx
  cases q : xs[i]? with
  | none => rw [q] at hx; simp at hx
  | some y =>
    rw [q] at hx
    refine ⟨y, rfl, ?_⟩
    simp at hx
    exact hx.symm
theorem loose2 {S' : Hs} {H2 : Hp} {T : Addr} {u v : V} {x y : PD} (al : Al S' H2) (hT : H2 T = none) (ru : Rp (hid S' H2) u x) (rv : Rp (hid S' H2) v y) : Ex H2 (upd H2 T (.tup [u, v])) ∧ Rk true (hid S' (upd H2 T (.tup [u, v]))) (.ref T) (.tuple [x, y]) :=
  ⟨Ex.new hT, .inr ⟨rfl, T, _, _, rfl, new_ok al hT, .cons (ru.ex (hid_ex (Ex.new hT))) (.cons (rv.ex (hid_ex (Ex.new hT))) .nil), rfl⟩⟩
theorem wk_enumT {a : Addr} {o : Obj} {vs : List V} {xs : List PD} (ha : hid S H a = some (fz o vs)) (ra : RpAll (hid S H) vs xs) : Wk true S (Un.IteT K a) (pairsD xs) H := fun S' H2 e2 al2 => by
  have sq : SqT K H2 a vs := .inl (.inr ⟨_, hid_le _ _ (e2 _ _ ha)⟩)
  have ra2 := ra.ex e2
  refine ⟨⟨_, sq, by rw [ra2.length]; simp [pairsD]⟩, fun i x hx => ?_⟩
  obtain ⟨y, hy, rfl⟩ := pairs_get hx
  obtain ⟨v, hv, rv⟩ := ra2.get hy
  refine ⟨⟨_, v, sq, hv⟩, fun w H3 yl => ?_⟩
  obtain ⟨T, z, rfl, e2, rfl, e4⟩ := yl
  have ez := e4 _ sq
  rw [hv] at ez
  cases ez
  exact loose2 al2 e2 (.int _) rv
theorem wk_enumL {a : Addr} {vs : List V} {xs : List PD} (ha : hid S H a = some (.lst vs)) (ra : RpAll (hid S H) vs xs) : Wk true S (Ite K a) (pairsD xs) H := fun S' H2 e2 al2 => by
  have sq : SqL K H2 a vs := .inl (.inl (hid_le _ _ (e2 _ _ ha)))
  have ra2 := ra.ex e2
  refine ⟨⟨_, sq, by rw [ra2.length]; simp [pairsD]⟩, fun i x hx => ?_⟩
  obtain ⟨y, hy, rfl⟩ := pairs_get hx
  obtain ⟨v, hv, rv⟩ := ra2.get hy
  refine ⟨⟨_, v, sq, hv⟩, fun w H3 yl => ?_⟩
  obtain ⟨T, z, rfl, e2, rfl, e4⟩ := yl
  have ez := e4 _ sq
  rw [hv] at ez
  cases ez
  exact loose2 al2 e2 (.int _) rv
theorem zip_get {xs ys : List PD} {i : Nat} {x : PD} (hx : (zipD xs ys)[i]? = some x) : ∃ y z, xs[i]? = some y ∧ ys[i]? = some z ∧ x = .tuple [y, z] := by
  unfold zipD at hx
  rw [List.getElem?_zipWith] at hx
  cases q1 : xs[i]? with
  | none => rw [q1] at hx; simp at hx
  | some y =>
    cases q2 : ys[i]? with
    | none => rw [q1, q2] at hx; simp at hx
    | some z =>
      rw [q1, q2] at hx
      simp at hx
      exact ⟨y, z, rfl, rfl, hx.symm⟩
theorem wk_zipT {a b : Addr} {o o' : Obj} {vs us : List V} {xs ys : List PD} (ha : hid S H a = some (fz o vs)) (ra : RpAll (hid S H) vs xs) (hb : hid S H b = some (fz o' us)) (rb : RpAll (hid S H) us ys) : Wk true S (RZ.ItzT K a b) (zipD xs ys) H := fun S' H2 e2 al2 => by
  have sq : SqT K H2 a vs := .inl (.inr ⟨_, hid_le _ _ (e2 _ _ ha)⟩)
  have sq2 : SqT K H2 b us := .inl (.inr ⟨_, hid_le _ _ (e2 _ _ hb)⟩)
  have ra2 := ra.ex e2
  have rb2 := rb.ex e2
  refine ⟨⟨_, _, sq, sq2, by rw [ra2.length, rb2.length]; unfold zipD; rw [List.length_zipWith]; omega⟩, fun i x hx => ?_⟩
  obtain ⟨y, z, hy, hz, rfl⟩ := zip_get hx
  obtain ⟨v, hv, rv⟩ := ra2.get hy
  obtain ⟨u, hu, ru⟩ := rb2.get hz
  refine ⟨⟨_, _, v, u, sq, sq2, hv, hu⟩, fun w H3 yl => ?_⟩
  obtain ⟨T, z1, z2, rfl, e2, rfl, e4, e5⟩ := yl
  have ez := e4 _ sq
  rw [hv] at ez
  cases ez
  have ez2 := e5 _ sq2
  rw [hu] at ez2
  cases ez2
  exact loose2 al2 e2 rv ru
theorem wk_zipL {a b : Addr} {vs us : List V} {xs ys : List PD} (ha : hid S H a = some (.lst vs)) (ra : RpAll (hid S H) vs xs) (hb : hid S H b = some (.lst us)) (rb : RpAll (hid S H) us ys) : Wk true S (Itz K a b) (zipD xs ys) H := fun S' H2 e2 al2 => by
  have sq : SqL K H2 a vs := .inl (.inl (hid_le _ _ (e2 _ _ ha)))
  have sq2 : SqL K H2 b us := .inl (.inl (hid_le _ _ (e2 _ _ hb)))
  have ra2 := ra.ex e2
  have rb2 := rb.ex e2
  refine ⟨⟨_, _, sq, sq2, by rw [ra2.length, rb2.length]; unfold zipD; rw [List.length_zipWith]; omega⟩, fun i x hx => ?_⟩
  obtain ⟨y, z, hy, hz, rfl⟩ := zip_get hx
  obtain ⟨v, hv, rv⟩ := ra2.get hy
  obtain ⟨u, hu, ru⟩ := rb2.get hz
  refine ⟨⟨_, _, v, u, sq, sq2, hv, hu⟩, fun w H3 yl => ?_⟩
  obtain ⟨T, z1, z2, rfl, e2, rfl, e4, e5⟩ := yl
  have ez := e4 _ sq
  rw [hv] at ez
  cases ez
  have ez2 := e5 _ sq2
  rw [hu] at ez2
  cases ez2
  exact loose2 al2 e2 rv ru
end
/-! ### sources, from an expression or from arguments -/
def iSeq (K : PySem.W.Frag) (te : TE) : TI := fun σ H R => iList K te σ H R ∨ iTup K te σ H R
def iEnumU (K : PySem.W.Frag) (ta : TA) : TI := fun σ H R => iEnum K ta σ H R ∨ Un.iEnumT K ta σ H R
def seqP : PD → Option (List PD)
  | .list ds => some ds
  | .tuple ds => some ds
  | .dict [(.none, .list ds)] => some ds
  | _ => none
def rngP : List PD → Option (List PD)
  | [.int n] => if -(2 ^ 62) ≤ n ∧ n < 2 ^ 62 then some ((List.range n.toNat).map fun k => .int (0 + (k : Nat))) else none
  | _ => none
def rng2P : List PD → Option (List PD)
  | [.int i, .int j] => if -(2 ^ 62) ≤ i ∧ i < 2 ^ 62 ∧ -(2 ^ 62) ≤ j ∧ j < 2 ^ 62 then some ((List.range (j - i).toNat).map fun k => .int (i + (k : Nat))) else none
  | _ => none
def enumP : List PD → Option (List PD)
  | [.list ds] => some (pairsD ds)
  | [.tuple ds] => some (pairsD ds)
  | _ => none
def zipP : List PD → Option (List PD)
  | [.list xs, .list ys] => some (zipD xs ys)
  | [.tuple xs, .tuple ys] => some (zipD xs ys)
  | _ => none
abbrev XI := VE → Option (List PD)
def Es (b : Bool) (wi : TI) (ρ : VE) (xs : List PD) : Prop := ∀ S σ H, Al S H → En (hid S H) σ ρ → ∀ R : It → Hp → Prop, (∀ J H1, Ex H H1 → Wk b S J xs H1 → R J H1) → wi σ H R
def SI (b : Bool) (wi : TI) (x : XI) : Prop := ∀ ρ xs, x ρ = some xs → Es b wi ρ xs
abbrev XWI := Env → Option (List PD × Env)
def SWI (b : Bool) (wi : TI) (w : XWI) : Prop := ∀ pn F T H σ ρ xs ρ', StOk pn F T H σ ρ → w ρ = some (xs, ρ') → ∀ R : It → Hp → Prop, (∀ J T' H', StOk pn F T' H' σ ρ' → Stp F T H T' H' → Wk b (SF F T') J xs H' → R J H') → wi σ H R
def xiE (a : XE) : XI := fun ρ => (a ρ).bind seqP
def xiA (f : List PD → Option (List PD)) (as : XA) : XI := fun ρ => (as ρ).bind f
def wiE (a : XW) : XWI := fun ρ => (a ρ).bind fun x => (seqP x.1).bind fun xs => some (xs, x.2)
def wiA (f : List PD → Option (List PD)) (as : XWA) : XWI := fun ρ => (as ρ).bind fun x => (f x.1).bind fun xs => some (xs, x.2)
def wiM (x : XI) : XWI := fun ρ => (x (mk ρ)).bind fun xs => some (xs, ρ)
section
variable {te : TE} {ts : TA}
/-- the arguments' readings at work -/
def Ai (b : Bool) (wi : TA → TI) (f : List PD → Option (List PD)) : Prop := ∀ (ts : TA) (S : Hs) (σ : L2.St) (H : Hp) (R : It → Hp → Prop) (ds xs : List PD), f ds = some xs →
  (∀ Q : List V → Hp → Prop, (∀ vs H1, Al S H1 → RpAll (hid S H1) vs ds → (∀ J, Wk b S J xs H1 → R J H1) → Q vs H1) → ts σ H Q) → wi ts σ H R
theorem core_rng {S : Hs} {vs : List V} {H1 : Hp} {ds xs : List PD} (h : rngP ds = some xs) (rv : RpAll (hid S H1) vs ds) : ∃ j : Int, vs = [.int j] ∧ -(2 ^ 62) ≤ j ∧ j < 2 ^ 62 ∧ Wk false S (Itr 0 j.toNat) xs H1 := by
  unfold rngP at h
  split at h
  · rename_i n
    by_cases c : -(2 ^ 62) ≤ n ∧ n < 2 ^ 62
    · rw [if_pos c] at h
      cases h
      cases rv with
      | cons h1 t =>
        cases t
        cases h1
        exact ⟨n, rfl, c.1, c.2, wk_rng⟩
    · rw [if_neg c] at h; cases h
  · cases h
theorem core_rng2 {S : Hs} {vs : List V} {H1 : Hp} {ds xs : List PD} (h : rng2P ds = some xs) (rv : RpAll (hid S H1) vs ds) : ∃ i j : Int, vs = [.int i, .int j] ∧ (-(2 ^ 62) ≤ i ∧ i < 2 ^ 62 ∧ -(2 ^ 62) ≤ j ∧ j < 2 ^ 62) ∧ Wk false S (Itr i (j - i).toNat) xs H1 := by
  unfold rng2P at h
  split at h
  · rename_i n m
    by_cases c : -(2 ^ 62) ≤ n ∧ n < 2 ^ 62 ∧ -(2 ^ 62) ≤ m ∧ m < 2 ^ 62
    · rw [if_pos c] at h
      cases h
      cases rv with
      | cons h1 t =>
        cases t with
        | cons h2 t =>
          cases t
          cases h1; cases h2
          exact ⟨n, m, rfl, c, wk_rng⟩
    · rw [if_neg c] at h; cases h
  · cases h
theorem core_enum {S : Hs} {vs : List V} {H1 : Hp} {ds xs : List PD} (h : enumP ds = some xs) (rv : RpAll (hid S H1) vs ds) : (∃ a us, vs = [.ref a] ∧ SqL K H1 a us ∧ Wk true S (Ite K a) xs H1) ∨ ∃ a us, vs = [.ref a] ∧ SqT K H1 a us ∧ Wk true S (Un.IteT K a) xs H1 := by
  unfold enumP at h
  split at h
  · cases h
    cases rv with
    | cons h1 t =>
      cases t
      cases h1 with
      | lst ha ra => exact .inl ⟨_, _, rfl, .inl (.inl (hid_le _ _ ha)), wk_enumL ha ra⟩
  · cases h
    cases rv with
    | cons h1 t =>
      cases t
      cases h1 with
      | tup ha _ ra => exact .inr ⟨_, _, rfl, .inl (.inr ⟨_, hid_le _ _ ha⟩), wk_enumT ha ra⟩
  · cases h
theorem core_zip {S : Hs} {vs : List V} {H1 : Hp} {ds xs : List PD} {R : It → Hp → Prop} (h : zipP ds = some xs) (rv : RpAll (hid S H1) vs ds) (q : ∀ J, Wk true S J xs H1 → R J H1) : ∃ a b us ws, vs = [.ref a, .ref b] ∧ ((SqL K H1 a us ∧ SqL K H1 b ws ∧ R (Itz K a b) H1) ∨ (SqT K H1 a us ∧ SqT K H1 b ws ∧ R (RZ.ItzT K a b) H1)) := by
  unfold zipP at h
  split at h
  · cases h
    cases rv with
    | cons h1 t =>
      cases t with
      | cons h2 t =>
        cases t
        cases h1 with
        | lst ha ra =>
          cases h2 with
          | lst hb rb => exact ⟨_, _, _, _, rfl, .inl ⟨.inl (.inl (hid_le _ _ ha)), .inl (.inl (hid_le _ _ hb)), q _ (wk_zipL ha ra hb rb)⟩⟩
  · cases h
    cases rv with
    | cons h1 t =>
      cases t with
      | cons h2 t =>
        cases t
        cases h1 with
        | tup ha _ ra =>
          cases h2 with
          | tup hb _ rb => exact ⟨_, _, _, _, rfl, .inr ⟨.inl (.inr ⟨_, hid_le _ _ ha⟩), .inl (.inr ⟨_, hid_le _ _ hb⟩), q _ (wk_zipT ha ra hb rb)⟩⟩
  · cases h
theorem si_seq {a : XE} (ha : SE te a) : SI false (iSeq K te) (xiE a) := fun ρ xs h S σ H al en R q => by
  obtain ⟨d, h1, h⟩ := bind_some h
  cases d with
  | list ds =>
    cases h
    refine .inl (ha ρ _ h1 S σ H al en _ fun v H1 e1 rv => ?_)
    cases rv with
    | lst hx ra => exact ⟨_, rfl, ⟨_, .inl (.inl (hid_le _ _ hx))⟩, q _ H1 e1 (wk_lst hx ra)⟩
  | tuple ds =>
    cases h
    refine .inr (ha ρ _ h1 S σ H al en _ fun v H1 e1 rv => ?_)
    cases rv with
    | tup hx _ ra => exact ⟨_, rfl, ⟨_, .inl (.inr ⟨_, hid_le _ _ hx⟩)⟩, q _ H1 e1 (wk_tup hx ra)⟩
  | dict kvs =>
    refine .inl (ha ρ _ h1 S σ H al en _ fun v H1 e1 rv => ?_)
    cases rv with
    | dic _ => cases h
    | scr hs ra => cases h; exact ⟨_, rfl, ⟨_, sqx hid_le hs⟩, q _ H1 e1 (wk_scr hs ra)⟩
  | _ => cases h
theorem si_rng {as : XA} (hs : SA ts as) : SI false (iRng1 ts) (xiA rngP as) := fun ρ xs h S σ H al en R q => by
  obtain ⟨ds, h1, h⟩ := bind_some h
  refine hs ρ ds h1 S σ H al en _ fun vs H1 e1 rv => ?_
  obtain ⟨j, h2, h3, h4, w⟩ := core_rng h rv
  exact ⟨j, h2, h3, h4, q _ H1 e1 w⟩
theorem si_rng2 {as : XA} (hs : SA ts as) : SI false (iRng2 ts) (xiA rng2P as) := fun ρ xs h S σ H al en R q => by
  obtain ⟨ds, h1, h⟩ := bind_some h
  refine hs ρ ds h1 S σ H al en _ fun vs H1 e1 rv => ?_
  obtain ⟨i, j, h2, h3, w⟩ := core_rng2 h rv
  exact ⟨i, j, h2, h3, q _ H1 e1 w⟩
theorem enum_l {ds xs : List PD} (h : enumP ds = some xs) : (∃ l, ds = [.list l]) ∨ ∃ l, ds = [.tuple l] := by
  unfold enumP at h
  split at h
  · exact .inl ⟨_, rfl⟩
  · exact .inr ⟨_, rfl⟩
  · cases h
theorem si_enum {as : XA} (hs : SA ts as) : SI true (iEnumU K ts) (xiA enumP as) := fun ρ xs h S σ H al en R q => by
  obtain ⟨ds, h1, h⟩ := bind_some h
  rcases enum_l h with ⟨l, rfl⟩ | ⟨l, rfl⟩
  · refine .inl (hs ρ _ h1 S σ H al en _ fun vs H1 e1 rv => ?_)
    cases h
    cases rv with
    | cons g1 t =>
      cases t
      cases g1 with
      | lst ha ra => exact ⟨_, _, rfl, .inl (.inl (hid_le _ _ ha)), q _ H1 e1 (wk_enumL ha ra)⟩
  · refine .inr (hs ρ _ h1 S σ H al en _ fun vs H1 e1 rv => ?_)
    cases h
    cases rv with
    | cons g1 t =>
      cases t
      cases g1 with
      | tup ha _ ra => exact ⟨_, _, rfl, .inl (.inr ⟨_, hid_le _ _ ha⟩), q _ H1 e1 (wk_enumT ha ra)⟩
theorem si_zip {as : XA} (hs : SA ts as) : SI true (RZ.iZipA K ts) (xiA zipP as) := fun ρ xs h S σ H al en R q => by
  obtain ⟨ds, h1, h⟩ := bind_some h
  exact hs ρ ds h1 S σ H al en _ fun vs H1 e1 rv => core_zip h rv fun J w => q J H1 e1 w
theorem swi_seq {a : XW} (ha : SW te a) : SWI false (iSeq K te) (wiE a) := fun pn F T H σ ρ xs ρ' st h R q => by
  obtain ⟨⟨d, ρ1⟩, h1, h⟩ := bind_some h
  obtain ⟨ys, h2, h⟩ := bind_some h
  cases h
  cases d with
  | list ds =>
    cases h2
    refine .inl (ha pn F T H σ ρ _ _ st h1 _ fun v T1 H1 st1 s1 rv => ?_)
    cases rv with
    | lst hx ra => exact ⟨_, rfl, ⟨_, .inl (.inl (hid_le _ _ hx))⟩, q _ T1 H1 st1 s1 (wk_lst hx ra)⟩
  | tuple ds =>
    cases h2
    refine .inr (ha pn F T H σ ρ _ _ st h1 _ fun v T1 H1 st1 s1 rv => ?_)
    cases rv with
    | tup hx _ ra => exact ⟨_, rfl, ⟨_, .inl (.inr ⟨_, hid_le _ _ hx⟩)⟩, q _ T1 H1 st1 s1 (wk_tup hx ra)⟩
  | dict kvs =>
    refine .inl (ha pn F T H σ ρ _ _ st h1 _ fun v T1 H1 st1 s1 rv => ?_)
    cases rv with
    | dic _ => cases h2
    | scr hs ra => cases h2; exact ⟨_, rfl, ⟨_, sqx hid_le hs⟩, q _ T1 H1 st1 s1 (wk_scr hs ra)⟩
  | _ => cases h2
theorem swi_rng {as : XWA} (hs : SWA ts as) : SWI false (iRng1 ts) (wiA rngP as) := fun pn F T H σ ρ xs ρ' st h R q => by
  obtain ⟨⟨ds, ρ1⟩, h1, h⟩ := bind_some h
  obtain ⟨ys, h2, h⟩ := bind_some h
  cases h
  refine hs pn F T H σ ρ ds _ st h1 _ fun vs T1 H1 st1 s1 rv => ?_
  obtain ⟨j, h2, h3, h4, w⟩ := core_rng h2 rv
  exact ⟨j, h2, h3, h4, q _ T1 H1 st1 s1 w⟩
theorem swi_rng2 {as : XWA} (hs : SWA ts as) : SWI false (iRng2 ts) (wiA rng2P as) := fun pn F T H σ ρ xs ρ' st h R q => by
  obtain ⟨⟨ds, ρ1⟩, h1, h⟩ := bind_some h
  obtain ⟨ys, h2, h⟩ := bind_some h
  cases h
  refine hs pn F T H σ ρ ds _ st h1 _ fun vs T1 H1 st1 s1 rv => ?_
  obtain ⟨i, j, h2, h3, w⟩ := core_rng2 h2 rv
  exact ⟨i, j, h2, h3, q _ T1 H1 st1 s1 w⟩
theorem swi_enum {as : XWA} (hs : SWA ts as) : SWI true (iEnumU K ts) (wiA enumP as) := fun pn F T H σ ρ xs ρ' st h R q => by
  obtain ⟨⟨ds, ρ1⟩, h1, h⟩ := bind_some h
  obtain ⟨ys, h2, h⟩ := bind_some h
  cases h
  rcases enum_l h2 with ⟨l, e⟩ | ⟨l, e⟩ <;> (have e : ds = _ := e; subst e)
  · refine .inl (hs pn F T H σ ρ _ _ st h1 _ fun vs T1 H1 st1 s1 rv => ?_)
    cases h2
    cases rv with
    | cons g1 t =>
      cases t
      cases g1 with
      | lst ha ra => exact ⟨_, _, rfl, .inl (.inl (hid_le _ _ ha)), q _ T1 H1 st1 s1 (wk_enumL ha ra)⟩
  · refine .inr (hs pn F T H σ ρ _ _ st h1 _ fun vs T1 H1 st1 s1 rv => ?_)
    cases h2
    cases rv with
    | cons g1 t =>
      cases t
      cases g1 with
      | tup ha _ ra => exact ⟨_, _, rfl, .inl (.inr ⟨_, hid_le _ _ ha⟩), q _ T1 H1 st1 s1 (wk_enumT ha ra)⟩
theorem swi_zip {as : XWA} (hs : SWA ts as) : SWI true (RZ.iZipA K ts) (wiA zipP as) := fun pn F T H σ ρ xs ρ' st h R q => by
  obtain ⟨⟨ds, ρ1⟩, h1, h⟩ := bind_some h
  obtain ⟨ys, h2, h⟩ := bind_some h
  cases h
  exact hs pn F T H σ ρ ds _ st h1 _ fun vs T1 H1 st1 s1 rv => core_zip h2 rv fun J w => q J T1 H1 st1 s1 w
end
end Uv

namespace Uv
open PySem PySem.Spec PyProof.Rows L2
open Evl (Ex)
variable [kk : KK]
/-! ### targets -/
def Off (vs : List Nat) (σ σ' : L2.St) : Prop := σ'.length = σ.length ∧ ∀ (i : Nat), i ∉ vs → σ'[i]? = σ[i]?
theorem Off.refl {vs : List Nat} {σ : L2.St} : Off vs σ σ := ⟨rfl, fun _ _ => rfl⟩
theorem Off.name {i : Nat} {σ : L2.St} {o : Option V} : Off [i] σ (σ.set i o) := ⟨List.length_set, fun j hj => List.getElem?_set_ne fun z => hj (by rw [z]; exact List.mem_cons_self ..)⟩
theorem Off.trans {vs ws : List Nat} {σ σ1 σ2 : L2.St} (a : Off vs σ σ1) (b : Off ws σ1 σ2) : Off (vs ++ ws) σ σ2 := ⟨b.1.trans a.1, fun i hi => (b.2 i fun z => hi (List.mem_append_right _ z)).trans (a.2 i fun z => hi (List.mem_append_left _ z))⟩
def gTU (K : PySem.W.Frag) (n : Nat) (t : TGs) : TG := fun v σ H Q => gTup K n t v σ H Q ∨ gUnl K n t v σ H Q
theorem PG.or {X : Cx} {e : Expr} {t u : TG} (h : PG X e t) (h' : PG X e u) : PG X e (fun v σ H Q => t v σ H Q ∨ u v σ H Q) := ⟨fun pins s σ H v w Q I r q => q.elim (h.run pins s σ H v w Q I r) (h'.run pins s σ H v w Q I r)⟩
abbrev XGV := PD → VE → Option VE
abbrev XGVs := List PD → VE → Option VE
def gvName (i : Nat) : XGV := fun x ρ => some (ρ.set i (some x))
def gvNil : XGVs := fun xs ρ => match xs with
  | [] => some ρ
  | _ :: _ => none
def gvCons (g : XGV) (gs : XGVs) : XGVs := fun xs ρ => match xs with
  | x :: r => (g x ρ).bind fun ρ1 => gs r ρ1
  | [] => none
def gvTup (n : Nat) (gs : XGVs) : XGV := fun x ρ => (seqP x).bind fun ds => if ds.length = n then gs ds ρ else none
def SGV (b : Bool) (g : TG) (xg : XGV) (vs : List Nat) : Prop := ∀ x ρ ρ', xg x ρ = some ρ' → ∀ S σ H v, En (hid S H) σ ρ → Rk b (hid S H) v x → ∀ Q : L2.St → Hp → Prop, (∀ σ', En (hid S H) σ' ρ' → Off vs σ σ' → Q σ' H) → g v σ H Q
def SGVs (gs : TGs) (xg : XGVs) (vs : List Nat) : Prop := ∀ xs ρ ρ', xg xs ρ = some ρ' → ∀ S σ H ws, En (hid S H) σ ρ → RpAll (hid S H) ws xs → ∀ Q : L2.St → Hp → Prop, (∀ σ', En (hid S H) σ' ρ' → Off vs σ σ' → Q σ' H) → gs ws σ H Q
abbrev XG := PD → Env → Option Env
abbrev XGs := List PD → Env → Option Env
def gName' (i : Nat) : XG := fun x ρ => some (ρ.set i (.dat x))
def gNil' : XGs := fun xs ρ => match xs with
  | [] => some ρ
  | _ :: _ => none
def gCons' (g : XG) (gs : XGs) : XGs := fun xs ρ => match xs with
  | x :: r => (g x ρ).bind fun ρ1 => gs r ρ1
  | [] => none
def gTup' (n : Nat) (gs : XGs) : XG := fun x ρ => (seqP x).bind fun ds => if ds.length = n then gs ds ρ else none
def SG (b : Bool) (g : TG) (xg : XG) (vs : List Nat) : Prop := ∀ pn F T H σ v x ρ ρ', StOk pn F T H σ ρ → xg x ρ = some ρ' → Rk b (hid (SF F T) H) v x → ∀ Q : L2.St → Hp → Prop, (∀ σ' T', StOk pn F T' H σ' ρ' → Stp F T H T' H → Off vs σ σ' → Q σ' H) → g v σ H Q
def SGs (gs : TGs) (xg : XGs) (vs : List Nat) : Prop := ∀ pn F T H σ ws xs ρ ρ', StOk pn F T H σ ρ → xg xs ρ = some ρ' → RpAll (hid (SF F T) H) ws xs → ∀ Q : L2.St → Hp → Prop, (∀ σ' T', StOk pn F T' H σ' ρ' → Stp F T H T' H → Off vs σ σ' → Q σ' H) → gs ws σ H Q
section
variable {vs ws : List Nat}
theorem sgv_name {i : Nat} : SGV false (gName i) (gvName i) [i] := fun x ρ ρ' h S σ H v en r Q q => by
  cases h
  rcases r with r | ⟨z, _⟩
  · exact q _ (en.set i r) Off.name
  · cases z
theorem sgv_nil : SGVs gNil gvNil [] := fun xs ρ ρ' h S σ H us en r Q q => by
  cases r with
  | nil => cases h; exact ⟨rfl, q σ en Off.refl⟩
  | cons _ _ => cases h
theorem sgv_cons {g : TG} {gs : TGs} {xg : XGV} {xgs : XGVs} (hg : SGV false g xg vs) (hs : SGVs gs xgs ws) : SGVs (gCons g gs) (gvCons xg xgs) (vs ++ ws) := fun xs ρ ρ' h S σ H us en r Q q => by
  cases r with
  | nil => cases h
  | cons a b =>
    obtain ⟨ρ1, h1, h2⟩ := bind_some (show (xg _ ρ).bind _ = some ρ' from h)
    exact ⟨_, _, rfl, hg _ ρ ρ1 h1 S σ H _ en (.inl a) _ fun σ1 en1 f1 => hs _ ρ1 ρ' h2 S σ1 H _ en1 b Q fun σ2 en2 f2 => q σ2 en2 (f1.trans f2)⟩
theorem seq_read {b : Bool} {n : Nat} {H G : Hp} {v : V} {x : PD} {ds : List PD} (e : Ex G H) (hx : seqP x = some ds) (hn : ds.length = n) (r : Rk b G v x) : ∃ a us, v = .ref a ∧ (SqT K H a us ∨ SqL K H a us) ∧ us.length = n ∧ RpAll G us ds := by
  rcases r with r | ⟨_, a, us, es, rfl, ha, ra, rfl⟩
  · cases r with
    | lst ha ra => cases hx; exact ⟨_, _, rfl, .inr (.inl (.inl (e _ _ ha))), by rw [ra.length, hn], ra⟩
    | tup ha _ ra => cases hx; exact ⟨_, _, rfl, .inl (.inl (.inr ⟨_, e _ _ ha⟩)), by rw [ra.length, hn], ra⟩
    | scr hs ra => cases hx; exact ⟨_, _, rfl, .inr (sqx e hs), by rw [ra.length, hn], ra⟩
    | _ => cases hx
  · cases hx
    exact ⟨a, us, rfl, .inl (.inl (.inl (e _ _ ha))), by rw [ra.length, hn], ra⟩
theorem sgv_tup {b : Bool} {n : Nat} {gs : TGs} {xgs : XGVs} (hs : SGVs gs xgs vs) : SGV b (gTU K n gs) (gvTup n xgs) vs := fun x ρ ρ' h S σ H v en r Q q => by
  obtain ⟨ds, h1, h⟩ := bind_some h
  by_cases c : ds.length = n
  · rw [if_pos c] at h
    obtain ⟨a, us, rfl, sq, hl, ra⟩ := seq_read (hid_le (S := S)) h1 c r
    rcases sq with sq | sq
    · exact .inl ⟨a, us, rfl, sq, hl, hs ds ρ ρ' h S σ H us en ra Q q⟩
    · exact .inr ⟨a, us, rfl, sq, hl, hs ds ρ ρ' h S σ H us en ra Q q⟩
  · rw [if_neg c] at h; cases h
theorem sg_name {i : Nat} (hi : i ≠ 0) : SG false (gName i) (gName' i) [i] := fun pn F T H σ v x ρ ρ' st h r Q q => by
  cases h
  rcases r with r | ⟨z, _⟩
  · obtain ⟨st', s⟩ := st.set hi r
    exact q _ _ st' s Off.name
  · cases z
theorem sg_nil : SGs gNil gNil' [] := fun pn F T H σ us xs ρ ρ' st h r Q q => by
  cases r with
  | nil => cases h; exact ⟨rfl, q σ T st Stp.refl Off.refl⟩
  | cons _ _ => cases h
theorem sg_cons {g : TG} {gs : TGs} {xg : XG} {xgs : XGs} (hg : SG false g xg vs) (hs : SGs gs xgs ws) : SGs (gCons g gs) (gCons' xg xgs) (vs ++ ws) := fun pn F T H σ us xs ρ ρ' st h r Q q => by
  cases r with
  | nil => cases h
  | cons a b =>
    obtain ⟨ρ1, h1, h2⟩ := bind_some (show (xg _ ρ).bind _ = some ρ' from h)
    exact ⟨_, _, rfl, hg pn F T H σ _ _ ρ ρ1 st h1 (.inl a) _ fun σ1 T1 st1 s1 f1 => hs pn F T1 H σ1 _ _ ρ1 ρ' st1 h2 (b.ex s1.vis) Q fun σ2 T2 st2 s2 f2 => q σ2 T2 st2 (s1.trans s2) (f1.trans f2)⟩
theorem sg_tup {b : Bool} {n : Nat} {gs : TGs} {xgs : XGs} (hs : SGs gs xgs vs) : SG b (gTU K n gs) (gTup' n xgs) vs := fun pn F T H σ v x ρ ρ' st h r Q q => by
  obtain ⟨ds, h1, h⟩ := bind_some h
  by_cases c : ds.length = n
  · rw [if_pos c] at h
    obtain ⟨a, us, rfl, sq, hl, ra⟩ := seq_read (hid_le (S := SF F T)) h1 c r
    rcases sq with sq | sq
    · exact .inl ⟨a, us, rfl, sq, hl, hs pn F T H σ us ds ρ ρ' st h ra Q q⟩
    · exact .inr ⟨a, us, rfl, sq, hl, hs pn F T H σ us ds ρ ρ' st h ra Q q⟩
  · rw [if_neg c] at h; cases h
end
/-! ### comprehensions, pure -/
def clear (ρ : VE) : List Nat → VE
  | [] => ρ
  | v :: vs => (clear ρ vs).set v none
theorem clear_en {H : Hp} {σ : L2.St} {ρ : VE} (h : En H σ ρ) : ∀ vs : List Nat, En H (wipe σ vs) (clear ρ vs)
  | [] => h
  | v :: vs => (clear_en h vs).clear v none
theorem wipe_get {σ : L2.St} {i : Nat} : ∀ {vs : List Nat}, i ∉ vs → (wipe σ vs)[i]? = σ[i]?
  | [], _ => rfl
  | v :: vs, h => by
    unfold wipe
    rw [List.getElem?_set_ne (fun z => h (by rw [← z]; exact List.mem_cons_self ..))]
    exact wipe_get fun z => h (List.mem_cons_of_mem _ z)
theorem wipe_at {σ : L2.St} {i : Nat} : ∀ {vs : List Nat}, i ∈ vs → i < σ.length → (wipe σ vs)[i]? = some none
  | v :: vs, h, hl => by
    unfold wipe
    by_cases c : v = i
    · subst c
      exact List.getElem?_set_self (by rw [wipe_length]; exact hl)
    · rw [List.getElem?_set_ne c]
      rcases List.mem_cons.mp h with z | z
      · exact absurd z.symm c
      · exact wipe_at z hl
theorem wipe_eq {σ τ : L2.St} {vs : List Nat} (hl : σ.length = τ.length) (h : ∀ i, i ∉ vs → σ[i]? = τ[i]?) : wipe σ vs = wipe τ vs := by
  apply List.ext_getElem?
  intro i
  by_cases c : i ∈ vs
  · by_cases b : i < σ.length
    · rw [wipe_at c b, wipe_at c (by omega)]
    · rw [List.getElem?_eq_none (by rw [wipe_length]; omega), List.getElem?_eq_none (by rw [wipe_length]; omega)]
  · rw [wipe_get c, wipe_get c]
    exact h i c
theorem wipe_off {vs : List Nat} {σ τ : L2.St} {us : List Nat} (f : Off us (wipe σ vs) τ) (hu : ∀ i ∈ us, i ∈ vs) : wipe τ vs = wipe σ vs := by
  have ew : wipe (wipe σ vs) vs = wipe σ vs := wipe_eq (wipe_length σ vs) fun j hj => wipe_get hj
  rw [← ew]
  exact wipe_eq f.1 fun j hj => f.2 j fun z => hj (hu j z)
def lcGo (g : XGV) (t : XT) (e : XE) (ρ : VE) : List PD → Option (List PD)
  | [] => some []
  | x :: xs => (g x ρ).bind fun ρ1 => (t ρ1).bind fun b => if b = true then (e ρ1).bind fun d => (lcGo g t e ρ xs).bind fun ds => some (d :: ds) else lcGo g t e ρ xs
def xLc (src : XI) (g : XGV) (t : XT) (e : XE) (vs : List Nat) : XE := fun ρ => (src ρ).bind fun xs => if xs.length ≤ 40000 then (lcGo g t e (clear ρ vs) xs).bind fun ds => some (.list ds) else none
/-- a list that is new -/
def FrL (te : TE) (ρ : VE) (ds : List PD) : Prop := ∀ S σ H, Al S H → En (hid S H) σ ρ → ∀ Q : VK, (∀ p vs H2, Ex H H2 → H p = none → H2 p = some (.lst vs) → RpAll (hid (fun x => x = p ∨ S x) H2) vs ds → Q (.ref p) H2) → te σ H Q
def SEF (te : TE) (x : XE) : Prop := ∀ ρ d, x ρ = some d → ∃ ds, d = .list ds ∧ FrL te ρ ds
theorem SEF.se {te : TE} {x : XE} (h : SEF te x) : SE te x := fun ρ d e S σ H al en Q q => by
  obtain ⟨ds, rfl, f⟩ := h ρ d e
  exact f S σ H al en Q fun p vs H2 e2 hp h2 ra => q _ H2 e2 (.lst (by rw [hid_out (al.new hp)]; exact h2) (ra.ex (hid_sub fun x hx => .inr hx)))
section
theorem lc_step {g : XGV} {t : XT} {e : XE} {ρ : VE} {x : PD} {xs ds : List PD} (h : lcGo g t e ρ (x :: xs) = some ds) : ∃ ρ1 b, g x ρ = some ρ1 ∧ t ρ1 = some b ∧ ((b = true ∧ ∃ d ds', e ρ1 = some d ∧ lcGo g t e ρ xs = some ds' ∧ ds = d :: ds') ∨ (b = false ∧ lcGo g t e ρ xs = some ds)) := by
  obtain ⟨ρ1, h1, h⟩ := bind_some (show (g x ρ).bind _ = some ds from h)
  obtain ⟨b, h2, h⟩ := bind_some h
  refine ⟨ρ1, b, h1, h2, ?_⟩
  cases b with
  | true =>
    obtain ⟨d, h3, h⟩ := bind_some (show (e ρ1).bind _ = some ds from h)
    obtain ⟨ds', h4, h⟩ := bind_some h
    cases h
    exact .inl ⟨rfl, d, ds', h3, h4, rfl⟩
  | false => exact .inr ⟨rfl, h⟩
theorem sef_lc {b : Bool} {wi : TI} {g : TG} {tt : TT} {te : TE} {vs us : List Nat} {src : XI} {xg : XGV} {t : XT} {e : XE} (hs : SI b wi src) (hg : SGV b g xg us) (hu : ∀ i ∈ us, i ∈ vs) (ht : ST tt t) (he : SE te e) : SEF (tLc wi g tt te vs) (xLc src xg t e vs) := fun ρ d h => by
  obtain ⟨xs, h1, h⟩ := bind_some h
  by_cases hz : xs.length ≤ 40000
  · rw [if_pos hz] at h
    obtain ⟨ds, h2, h⟩ := bind_some h
    cases h
    refine ⟨ds, rfl, fun S σ H al en Q q => hs ρ xs h1 S σ H al en _ fun J H1 e1 wk D hD => ?_⟩
    have al1 := al.ex e1
    have alD : Al (fun x => x = D ∨ S x) (upd H1 D (.lst [])) := fun x hx => by
      by_cases c : x = D
      · subst c; rw [upd_same]; exact fun z => nomatch z
      · rw [upd_ne c]; exact al1 x (hx.resolve_left c)
    refine ⟨fun i m H' => m = xs.length - i ∧ i ≤ xs.length ∧ Ex H1 H' ∧ Al (fun x => x = D ∨ S x) H' ∧ ∃ acc ds1 ds2, H' D = some (.lst acc) ∧ acc.length ≤ i ∧ RpAll (hid (fun x => x = D ∨ S x) H') acc ds1 ∧ lcGo xg t e (clear ρ vs) (xs.drop i) = some ds2 ∧ ds = ds1 ++ ds2,
      ⟨_, rfl, Nat.zero_le _, Ex.new hD, alD, [], [], ds, upd_same, Nat.le_refl _, .nil, h2, rfl⟩, fun i m H' hw => ?_⟩
    obtain ⟨rfl, hi, e2, al2, acc, ds1, ds2, hacc, la, ra, hgo, hds⟩ := hw
    have ewk : Ex (hid S H1) (hid (fun x => x = D ∨ S x) H') := hid_cons e2 hD
    obtain ⟨w1, w2⟩ := wk _ H' ewk al2
    by_cases hlt : i < xs.length
    · obtain ⟨w3, w4⟩ := w2 i _ (List.getElem?_eq_getElem hlt)
      rw [List.drop_eq_getElem_cons hlt] at hgo
      obtain ⟨ρ1, b1, g1, t1, alt⟩ := lc_step hgo
      refine .inr ⟨w3, fun H2 => Ex H1 H2 ∧ Al (fun x => x = D ∨ S x) H2 ∧ ∃ acc ds1 ds2, H2 D = some (.lst acc) ∧ acc.length ≤ i + 1 ∧ RpAll (hid (fun x => x = D ∨ S x) H2) acc ds1 ∧ lcGo xg t e (clear ρ vs) (xs.drop (i + 1)) = some ds2 ∧ ds = ds1 ++ ds2, fun H2 hn => ⟨_, by omega, rfl, hlt, hn⟩, fun v H3 y => ?_⟩
      obtain ⟨e3, rv⟩ := w4 v H3 y
      have al3 := al2.ex e3
      have en3 : En (hid (fun x => x = D ∨ S x) H3) (wipe σ vs) (clear ρ vs) := clear_en (en.ex (((hid_ex e1).trans ewk).trans (hid_ex e3))) vs
      refine hg _ _ ρ1 g1 _ (wipe σ vs) H3 v en3 rv _ fun σ4 en4 off => ⟨wipe_off off hu, ?_⟩
      refine ht ρ1 b1 t1 _ σ4 H3 al3 en4 _ fun H5 e5 => ?_
      have hacc5 : H5 D = some (.lst acc) := e5 _ _ (e3 _ _ hacc)
      have ra5 := ra.ex ((hid_ex (S := fun x => x = D ∨ S x) e3).trans (hid_ex e5))
      rcases alt with ⟨rfl, d1, ds', f1, f2, rfl⟩ | ⟨rfl, f2⟩
      · show te σ4 H5 _
        refine he ρ1 d1 f1 _ σ4 H5 (al3.ex e5) (en4.ex (hid_ex e5)) _ fun z H6 e6 rz => ⟨acc, e6 _ _ hacc5, Evl.sz_lt (by omega), Ex.mut (((e2.trans e3).trans e5).trans e6) hD, ?_, acc ++ [z], ds1 ++ [d1], ds', upd_same, by rw [List.length_append]; simpa using la, ?_, f2, by rw [hds, List.append_assoc]; rfl⟩
        · intro x hx
          by_cases c : x = D
          · subst c; rw [upd_same]; exact fun q => nomatch q
          · rw [upd_ne c]; exact ((al3.ex e5).ex e6) x hx
        · have hu' : Ex (hid (fun x => x = D ∨ S x) H6) (hid (fun x => x = D ∨ S x) (upd H6 D (.lst (acc ++ [z])))) := fun x o h => by
            obtain ⟨c, h⟩ := hid_some h
            rw [hid_out c, upd_ne (fun z => c (.inl z))]
            exact h
          exact RpAll.append (ra5.ex ((hid_ex e6).trans hu')) (.cons (rz.ex hu') .nil)
      · exact ⟨(e2.trans e3).trans e5, al3.ex e5, acc, ds1, ds2, hacc5, by omega, ra5, f2, hds⟩
    · have ei : i = xs.length := by omega
      subst ei
      rw [List.drop_length] at hgo
      cases hgo
      rw [List.append_nil] at hds
      subst hds
      exact .inl ⟨w1, q D acc H' (e1.trans e2) (by
        cases qq : H D with
        | none => rfl
        | some o => rw [e1 _ _ qq] at hD; cases hD) hacc ra⟩
  · rw [if_neg hz] at h; cases h
theorem sef_lst {ts : TA} {as : XA} (hs : SA ts as) : SEF (tLst ts) (xLst as) := fun ρ d h => by
  obtain ⟨ds, h1, h⟩ := bind_some h
  by_cases hl : ds.length ≤ 100000
  · rw [if_pos hl] at h
    cases h
    refine ⟨ds, rfl, fun S σ H al en Q q => hs ρ ds h1 S σ H al en _ fun vs H1 e1 ra => ⟨by rw [ra.length]; exact Evl.sz_of hl, fun p hp => q p vs _ (e1.trans (Ex.new hp)) (by
      cases qq : H p with
      | none => rfl
      | some o => rw [e1 _ _ qq] at hp; cases hp) upd_same (ra.ex (hid_cons (Ex.new hp) hp))⟩⟩
  · rw [if_neg hl] at h; cases h
theorem sef_list {ta : TE} {a : XE} (ha : SE ta a) : SEF (tCB (rListQ K) (tCons ta tNil)) (xUn listP a) := fun ρ d h => by
  obtain ⟨x, h1, h⟩ := bind_some h
  have fresh : ∀ {H H1 : Hp} {p : Addr}, Ex H H1 → H1 p = none → H p = none := fun {H H1 p} e hp => by
    cases qq : H p with
    | none => rfl
    | some o => rw [e _ _ qq] at hp; cases hp
  cases x with
  | list ds =>
    cases h
    refine ⟨ds, rfl, fun S σ H al en Q q => ha ρ _ h1 S σ H al en _ fun v H1 e1 rv => ?_⟩
    cases rv with
    | lst hx ra => exact ⟨_, _, rfl, .inl (.inl (.inl (hid_le _ _ hx))), fun l hl => q l _ _ (e1.trans (Ex.new hl)) (fresh e1 hl) upd_same (ra.ex (hid_cons (Ex.new hl) hl))⟩
  | tuple ds =>
    cases h
    refine ⟨ds, rfl, fun S σ H al en Q q => ha ρ _ h1 S σ H al en _ fun v H1 e1 rv => ?_⟩
    cases rv with
    | tup hx _ ra => exact ⟨_, _, rfl, .inr (.inl (.inr ⟨_, hid_le _ _ hx⟩)), fun l hl => q l _ _ (e1.trans (Ex.new hl)) (fresh e1 hl) upd_same (ra.ex (hid_cons (Ex.new hl) hl))⟩
  | _ => cases h
end
end Uv

namespace Uv
open PySem PySem.Spec PyProof.Rows L2
open Evl (Ex)
variable [kk : KK]
/-! ### new lists, owned -/
theorem FL_nil {F : Hs} : FL F [] = F := funext fun x => propext ⟨fun h => h.elim id (fun z => nomatch z), .inl⟩
theorem FL_app {F : Hs} {A B : List Addr} : FL (FL F A) B = FL F (A ++ B) := funext fun x => propext ⟨fun h => h.elim (fun h => h.elim .inl fun z => .inr (List.mem_append_left _ z)) fun z => .inr (List.mem_append_right _ z),
  fun h => h.elim (fun h => .inl (.inl h)) fun z => (List.mem_append.mp z).elim (fun z => .inl (.inr z)) .inr⟩
theorem FL_perm {F : Hs} {A B : List Addr} (h : ∀ x, x ∈ A ↔ x ∈ B) : FL F A = FL F B := funext fun x => propext ⟨fun z => z.elim .inl fun z => .inr ((h x).mp z), fun z => z.elim .inl fun z => .inr ((h x).mpr z)⟩
theorem SF_FL1 {F : Hs} {T : Trs} {p : Addr} : SF (FL F [p]) T = fun x => x = p ∨ SF F T x := funext fun x => propext ⟨fun h => h.elim (fun h => h.elim (fun z => .inr (.inl z)) fun z => .inl (by simpa using z)) fun z => .inr (.inr z),
  fun h => h.elim (fun z => .inl (.inr (by rw [z]; exact List.mem_cons_self ..))) fun z => z.elim (fun z => .inl (.inl z)) .inr⟩
theorem ex_none {H H1 : Hp} {p : Addr} (e : Ex H H1) (hp : H1 p = none) : H p = none := by
  cases qq : H p with
  | none => rfl
  | some o => rw [e _ _ qq] at hp; cases hp
section
variable {pn : Option V} {F : Hs} {T : Trs} {H H2 : Hp} {σ : L2.St} {ρ : Env}
/-- one more new object in the frame -/
theorem StOk.fresh (st : StOk pn F T H σ ρ) (e : Ex H H2) {p : Addr} (hp : H p = none) (h2 : H2 p ≠ none) : StOk pn (FL F [p]) T H2 σ ρ ∧ Ex (hid (SF F T) H) (hid (SF (FL F [p]) T) H2) := by
  have vis : Ex (hid (SF F T) H) (hid (SF (FL F [p]) T) H2) := by rw [SF_FL1]; exact hid_cons e hp
  have st2 := st.ex e
  refine ⟨⟨st.len, fun x h => ?_, fun i x hx z => ?_, st.dis, st.nd, st.out, fun i s hi => ?_, st.pin⟩, vis⟩
  · rcases h with h | h
    · exact st2.al x h
    · have ex : x = p := by simpa using h
      rw [ex]; exact h2
  · rcases z with z | z
    · exact st.off i x hx z
    · have ex : x = p := by simpa using z
      obtain ⟨vs, q, _⟩ := st.lst hx
      rw [ex, hp] at q
      cases q
  · obtain ⟨o, h1, h3⟩ := st.sl i s hi
    refine ⟨o, h1, h3.mv vis fun x hx => ?_⟩
    obtain ⟨vs, q, _⟩ := st.lst hx
    rw [q, e x _ q]
end
abbrev XWC := Env → Option (List Cel × Env)
def SWC (ta : TA) (w : XWC) : Prop := ∀ pn F T H σ ρ cs ρ', StOk pn F T H σ ρ → w ρ = some (cs, ρ') → ∀ Q : List V → Hp → Prop, (∀ vs B T' H', StOk pn (FL F B) T' H' σ ρ' → B.Nodup → (∀ x ∈ B, ¬ F x) → (∀ x, F x → H' x = H x) → Ex (hid (SF F T) H) (hid (SF (FL F B) T') H') → Cels (hid (SF (FL F B) T') H') H' vs cs B → Q vs H') → ta σ H Q
def asList : PD → Option (List PD)
  | .list ds => some ds
  | _ => none
theorem asList_eq {d : PD} {ds : List PD} (h : asList d = some ds) : d = .list ds := by
  cases d with
  | list l => cases h; rfl
  | _ => cases h
def wOM (x : XE) : XWO := fun ρ => ((x (mk ρ)).bind asList).bind fun ds => some (ds.map Cel.dat, ρ)
def wOV (x : XE) : XWO := fun ρ => ((x (vw ρ)).bind asList).bind fun ds => if flats ds = true then some (ds.map Cel.dat, ρ) else none
theorem Cels.dats {G H : Hp} : ∀ {vs : List V} {ds : List PD}, RpAll G vs ds → Cels G H vs (ds.map Cel.dat) []
  | _, _, .nil => .nil
  | _, _, .cons h r => .dat h (Cels.dats r)
theorem swo_M {te : TE} {x : XE} (h : SEF te x) : SWO te (wOM x) := fun pn F T H σ ρ cs ρ' st e Q q => by
  obtain ⟨ds, h1, h2⟩ := bind_some e
  obtain ⟨d, h1, h3⟩ := bind_some h1
  cases h2
  have e := asList_eq h3
  subst e
  obtain ⟨ds', e', f⟩ := h _ _ h1
  cases e'
  refine f (SF F T) σ H st.als st.mkd Q fun p vs H2 e2 hp h2 ra => ?_
  obtain ⟨st2, vis⟩ := st.fresh e2 hp (by rw [h2]; exact fun z => nomatch z)
  refine q _ [p] T H2 st2 (by simp) (fun x hx => ?_) (Stp.ex (T := T) st.al e2).fr vis ⟨p, vs, [], rfl, h2, Cels.dats (by rw [SF_FL1]; exact ra), rfl⟩
  have ex : x = p := by simpa using hx
  rw [ex]
  exact st.al.new hp
theorem swo_V {te : TE} {x : XE} (h : SEF te x) : SWO te (wOV x) := fun pn F T H σ ρ cs ρ' st e Q q => by
  obtain ⟨ds, h1, h2⟩ := bind_some e
  obtain ⟨d, h1, h3⟩ := bind_some h1
  by_cases c : flats ds = true
  · rw [if_pos c] at h2
    cases h2
    have e := asList_eq h3
    subst e
    obtain ⟨ds', e', f⟩ := h _ _ h1
    cases e'
    refine f F σ H st.al st.vw Q fun p vs H2 e2 hp h2 ra => ?_
    obtain ⟨st2, vis⟩ := st.fresh e2 hp (by rw [h2]; exact fun z => nomatch z)
    have fr : ∀ x o u, hid (fun x => x = p ∨ F x) H2 x = some (.frz o u) → hid (SF (FL F [p]) T) H2 x = some (.frz o u) := fun x o u hh => by
      obtain ⟨c1, c2⟩ := hid_some hh
      exact st2.frz (Ex.refl _) x o u (by rw [hid_out]; exact c2; exact fun z => c1 (z.elim .inr fun z => .inl (by simpa using z)))
    refine q _ [p] T H2 st2 (by simp) (fun x hx => ?_) (Stp.ex (T := T) st.al e2).fr vis ⟨p, vs, [], rfl, h2, Cels.dats (ra.flat fr c), rfl⟩
    have ex : x = p := by simpa using hx
    rw [ex]
    exact st.al.new hp
  · rw [if_neg c] at h2; cases h2
/-- a new list becomes data at once -/
def wFz (o : XWO) : XW := fun ρ => (o ρ).bind fun x => some (.list (x.1.map Cel.pd), x.2)
theorem sw_fz {te : TE} {o : XWO} (h : SWO te o) : SW te (wFz o) := fun pn F T H σ ρ d ρ' st e Q q => by
  obtain ⟨⟨cs, ρ1⟩, h1, e⟩ := bind_some e
  cases e
  refine h pn F T H σ ρ cs _ st h1 Q fun v A T' H' st' nd off fr vis ow => ?_
  obtain ⟨st2, sub⟩ := st'.thaw
  refine q v T' H' st2 ⟨fr, vis.trans sub⟩ (ow.rp sub fun x hx => hid_out ?_)
  rintro (z | ⟨i, z⟩)
  · exact off x hx z
  · exact st'.off i x z (.inr hx)
/-! items one by one -/
def wcNil : XWC := fun ρ => some ([], ρ)
def wcDat (a : XW) (as : XWC) : XWC := fun ρ => (a ρ).bind fun x => (as x.2).bind fun xs => some (.dat x.1 :: xs.1, xs.2)
def allDat : List Cel → Option (List PD)
  | [] => some []
  | .dat d :: r => (allDat r).bind fun ds => some (d :: ds)
  | .sub _ :: _ => none
theorem allDat_map : ∀ ds : List PD, allDat (ds.map Cel.dat) = some ds
  | [] => rfl
  | d :: ds => by rw [List.map_cons, allDat, allDat_map ds]; rfl
theorem allDat_eq : ∀ {cs : List Cel} {ds : List PD}, allDat cs = some ds → cs = ds.map Cel.dat
  | [], ds, h => by cases h; rfl
  | .dat d :: r, ds, h => by
    obtain ⟨es, h1, h2⟩ := bind_some (show (allDat r).bind _ = some ds from h)
    cases h2
    rw [allDat_eq h1]
    rfl
  | .sub _ :: _, _, h => nomatch h
def wcSub (a : XWO) (as : XWC) : XWC := fun ρ => (a ρ).bind fun x => (allDat x.1).bind fun ds => (as x.2).bind fun xs => some (.sub ds :: xs.1, xs.2)
theorem Cels.dats_inv {G H : Hp} : ∀ {vs : List V} {ds : List PD} {B : List Addr}, Cels G H vs (ds.map Cel.dat) B → RpAll G vs ds ∧ B = []
  | _, [], _, .nil => ⟨.nil, rfl⟩
  | _, d :: ds, _, .dat r c => ⟨.cons r (Cels.dats_inv c).1, (Cels.dats_inv c).2⟩
theorem swc_nil : SWC tNil wcNil := fun pn F T H σ ρ cs ρ' st e Q q => by
  cases e
  exact q [] [] T H (by rw [FL_nil]; exact st) (by simp) (fun x hx => nomatch hx) (fun _ _ => rfl) (by rw [FL_nil]; exact Ex.refl _) .nil
theorem swc_dat {ta : TE} {ts : TA} {a : XW} {as : XWC} (ha : SW ta a) (hs : SWC ts as) : SWC (tCons ta ts) (wcDat a as) := fun pn F T H σ ρ cs ρ' st e Q q => by
  obtain ⟨⟨x, ρ1⟩, h1, e⟩ := bind_some e
  obtain ⟨⟨xs, ρ2⟩, h2, e⟩ := bind_some e
  cases e
  exact ha pn F T H σ ρ x ρ1 st h1 _ fun v T1 H1 st1 s1 rv => hs pn F T1 H1 σ ρ1 xs ρ2 st1 h2 _ fun vs B T2 H2 st2 nd off fr vis c =>
    q (v :: vs) B T2 H2 st2 nd off (fun x hx => (fr x hx).trans (s1.fr x hx)) (s1.vis.trans vis) (.dat (rv.ex vis) c)
theorem swc_sub {ta : TE} {ts : TA} {a : XWO} {as : XWC} (ha : SWO ta a) (hs : SWC ts as) : SWC (tCons ta ts) (wcSub a as) := fun pn F T H σ ρ cs ρ' st e0 Q q => by
  obtain ⟨⟨x, ρ1⟩, h1, e1⟩ := bind_some e0
  obtain ⟨ds, hd, e2⟩ := bind_some e1
  obtain ⟨⟨xs, ρ2⟩, h2, e3⟩ := bind_some e2
  have e4 : some (Cel.sub ds :: xs, ρ2) = some (cs, ρ') := e3
  clear e0 e1 e2 e3
  obtain ⟨rfl, rfl⟩ := Prod.mk.inj (Option.some.inj e4)
  have ex : x = _ := allDat_eq hd
  subst ex
  refine ha pn F T H σ ρ _ ρ1 st h1 _ fun v A T1 H1 st1 nd off fr vis ow => ?_
  obtain ⟨b, ws, B0, rfl, hb, cb, rfl⟩ := ow
  obtain ⟨ra, rfl⟩ := cb.dats_inv
  refine hs pn (FL F [b]) T1 H1 σ ρ1 xs ρ2 st1 h2 _ fun vs B T2 H2 st2 nd2 off2 fr2 vis2 c => ?_
  have eF : FL (FL F [b]) B = FL F (b :: B) := FL_app
  rw [eF] at st2 vis2 c
  have hb2 : H2 b = some (.lst ws) := by rw [fr2 b (.inr (List.mem_cons_self ..))]; exact hb
  refine q (.ref b :: vs) (b :: B) T2 H2 st2 (List.nodup_cons.mpr ⟨fun z => off2 b z (.inr (List.mem_cons_self ..)), nd2⟩) (fun x hx => ?_) (fun x hx => (fr2 x (.inl hx)).trans (fr x hx)) (vis.trans vis2) (.sub hb2 (ra.ex vis2) c)
  rcases List.mem_cons.mp hx with z | z
  · rw [z]; exact off b (List.mem_cons_self ..)
  · exact fun w => off2 x z (.inl w)
def wOL (as : XWC) : XWO := fun ρ => (as ρ).bind fun x => if x.1.length ≤ 100000 then some x else none
theorem swo_lst {ts : TA} {as : XWC} (hs : SWC ts as) : SWO (tLst ts) (wOL as) := fun pn F T H σ ρ cs ρ' st e Q q => by
  obtain ⟨⟨xs, ρ1⟩, h1, e⟩ := bind_some e
  by_cases hl : xs.length ≤ 100000
  · rw [if_pos hl] at e
    cases e
    refine hs pn F T H σ ρ _ _ st h1 _ fun vs B T1 H1 st1 nd off fr vis c => ⟨by rw [c.length]; exact Evl.sz_of hl, fun p hp => ?_⟩
    obtain ⟨st2, vis2⟩ := st1.fresh (Ex.new (o := .lst vs) hp) hp (by rw [upd_same]; exact fun z => nomatch z)
    have eF : FL (FL F B) [p] = FL F (p :: B) := by
      rw [FL_app]
      exact FL_perm fun x => by simp [or_comm]
    rw [eF] at st2 vis2
    have npB : ∀ x ∈ B, x ≠ p := fun x hx z => by
      have := st1.al x (.inr hx)
      rw [z, hp] at this
      exact this rfl
    have npF : ∀ x, F x → x ≠ p := fun x hx z => by
      have := st1.al x (.inl hx)
      rw [z, hp] at this
      exact this rfl
    refine q (.ref p) (p :: B) T1 _ st2 (List.nodup_cons.mpr ⟨fun z => npB p z rfl, nd⟩) (fun x hx => ?_) (fun x hx => by rw [upd_ne (npF x hx)]; exact fr x hx) (vis.trans vis2) ⟨p, vs, B, rfl, upd_same, c.mv vis2 fun x hx => upd_ne (npB x hx), rfl⟩
    rcases List.mem_cons.mp hx with z | z
    · rw [z]; exact fun w => npF p w rfl
    · exact off x z
  · rw [if_neg hl] at e; cases e
end Uv

namespace Uv
open PySem PySem.Spec PyProof.Rows L2
open Evl (Ex)
variable [kk : KK]
/-! ### statements -/
inductive Out | nxt (ρ : Env) | ret (d : PD) (ρ : Env) | retO (cs : List Cel) (ρ : Env) | brk (ρ : Env) | cnt (ρ : Env)
abbrev XS := Env → Option Out
def OutOk (pn : Option V) (F : Hs) (T : Trs) (H : Hp) (D : Ends) : Out → Prop
  | .nxt ρ => ∀ σ T' H', StOk pn F T' H' σ ρ → Stp F T H T' H' → D.nx σ H'
  | .brk ρ => ∀ σ T' H', StOk pn F T' H' σ ρ → Stp F T H T' H' → D.bk σ H'
  | .cnt ρ => ∀ σ T' H', StOk pn F T' H' σ ρ → Stp F T H T' H' → D.ct σ H'
  | .ret d ρ => ∀ v σ T' H', StOk pn F T' H' σ ρ → Stp F T H T' H' → Rp (hid (SF F T') H') v d → D.rt v H'
  | .retO cs ρ => ∀ v A σ T' H', StOk pn (FL F A) T' H' σ ρ → A.Nodup → (∀ x ∈ A, ¬ F x) → (∀ x, F x → H' x = H x) → Ex (hid (SF F T) H) (hid (SF (FL F A) T') H') → Own (hid (SF (FL F A) T') H') H' v cs A → D.rt v H'
def SS (ts : TS) (x : XS) : Prop := ∀ pn F T H σ ρ o D, StOk pn F T H σ ρ → x ρ = some o → OutOk pn F T H D o → ts D σ H
theorem OutOk.step {pn : Option V} {F : Hs} {T T1 : Trs} {H H1 : Hp} {D : Ends} (s : Stp F T H T1 H1) : ∀ {o : Out}, OutOk pn F T H D o → OutOk pn F T1 H1 D o
  | .nxt _, h => fun σ T' H' st s' => h σ T' H' st (s.trans s')
  | .brk _, h => fun σ T' H' st s' => h σ T' H' st (s.trans s')
  | .cnt _, h => fun σ T' H' st s' => h σ T' H' st (s.trans s')
  | .ret _ _, h => fun v σ T' H' st s' => h v σ T' H' st (s.trans s')
  | .retO _ _, h => fun v A σ T' H' st nd off fr vis => h v A σ T' H' st nd off (fun x hx => (fr x hx).trans (s.fr x hx)) (s.vis.trans vis)
/-- with another way on -/
theorem OutOk.on {pn : Option V} {F : Hs} {T : Trs} {H : Hp} {D : Ends} {nx bk ct : L2.St → Hp → Prop} : ∀ {o : Out}, (∀ ρ, o ≠ .nxt ρ) → (∀ ρ, o ≠ .brk ρ) → (∀ ρ, o ≠ .cnt ρ) → OutOk pn F T H D o → OutOk pn F T H { D with nx := nx, bk := bk, ct := ct } o
  | .nxt _, h, _, _, _ => absurd rfl (h _)
  | .brk _, _, h, _, _ => absurd rfl (h _)
  | .cnt _, _, _, h, _ => absurd rfl (h _)
  | .ret _ _, _, _, _, h => h
  | .retO _ _, _, _, _, h => h
def sNext : XS := fun ρ => some (.nxt ρ)
def sCont : XS := fun ρ => some (.cnt ρ)
def sBreak : XS := fun ρ => some (.brk ρ)
def sSeq (x y : XS) : XS := fun ρ => (x ρ).bind fun o => match o with
  | .nxt ρ1 => y ρ1
  | o => some o
def sRet (w : XW) : XS := fun ρ => (w ρ).bind fun x => some (.ret x.1 x.2)
def sRetN : XS := fun ρ => some (.ret .none ρ)
def sRetO (w : XWO) : XS := fun ρ => (w ρ).bind fun x => some (.retO x.1 x.2)
def sIf (c : XWT) (x y : XS) : XS := fun ρ => (c ρ).bind fun k => if k.1 = true then x k.2 else y k.2
def sAsg (g : XG) (w : XW) : XS := fun ρ => (w ρ).bind fun x => (g x.1 x.2).bind fun ρ1 => some (.nxt ρ1)
def sOwn (i : Nat) (w : XWO) : XS := fun ρ => (w ρ).bind fun x => if i < x.2.length then some (.nxt (x.2.set i (.own x.1))) else none
def sDrop (w : XW) : XS := fun ρ => (w ρ).bind fun x => some (.nxt x.2)
def toSl : Cel → Sl
  | .dat d => .dat d
  | .sub ds => .own (ds.map Cel.dat)
def two : List Cel → Option (Cel × Cel)
  | [c, e] => some (c, e)
  | _ => none
theorem two_eq {cs : List Cel} {c e : Cel} (h : two cs = some (c, e)) : cs = [c, e] := by
  unfold two at h
  split at h
  · cases h; rfl
  · cases h
def sPar (i j : Nat) (as : XWC) : XS := fun ρ => (as ρ).bind fun x => (two x.1).bind fun c => if i < x.2.length ∧ j < x.2.length then some (.nxt ((x.2.set i (toSl c.1)).set j (toSl c.2))) else none
section
variable {te : TE} {t u : TS} {ct : TT} {x y : XS} {w : XW} {c : XWT}
theorem ss_next : SS tNext sNext := fun pn F T H σ ρ o D st e q => by cases e; exact q σ T H st Stp.refl
theorem ss_cont : SS tCont sCont := fun pn F T H σ ρ o D st e q => by cases e; exact q σ T H st Stp.refl
theorem ss_break : SS tBreak sBreak := fun pn F T H σ ρ o D st e q => by cases e; exact q σ T H st Stp.refl
theorem ss_seq (hx : SS t x) (hy : SS u y) : SS (tSeq t u) (sSeq x y) := fun pn F T H σ ρ o D st e q => by
  obtain ⟨o1, h1, e⟩ := bind_some e
  cases o1 with
  | nxt ρ1 => exact hx pn F T H σ ρ _ { D with nx := u D } st h1 fun σ2 T2 H2 st2 s2 => hy pn F T2 H2 σ2 ρ1 o D st2 e (q.step s2)
  | ret d ρ1 => cases e; exact hx pn F T H σ ρ _ { D with nx := u D } st h1 q
  | retO d ρ1 => cases e; exact hx pn F T H σ ρ _ { D with nx := u D } st h1 q
  | brk ρ1 => cases e; exact hx pn F T H σ ρ _ { D with nx := u D } st h1 q
  | cnt ρ1 => cases e; exact hx pn F T H σ ρ _ { D with nx := u D } st h1 q
theorem ss_ret (h : SW te w) : SS (tRet te) (sRet w) := fun pn F T H σ ρ o D st e q => by
  obtain ⟨⟨d, ρ1⟩, h1, e⟩ := bind_some e
  cases e
  exact h pn F T H σ ρ d ρ1 st h1 _ fun v T' H' st' s' rv => q v σ T' H' st' s' rv
theorem ss_retN : SS tRetN sRetN := fun pn F T H σ ρ o D st e q => by cases e; exact q .non σ T H st Stp.refl .non
theorem ss_retO {w : XWO} (h : SWO te w) : SS (tRet te) (sRetO w) := fun pn F T H σ ρ o D st e q => by
  obtain ⟨⟨d, ρ1⟩, h1, e⟩ := bind_some e
  cases e
  exact h pn F T H σ ρ d ρ1 st h1 _ fun v A T' H' st' nd off fr vis ow => q v A σ T' H' st' nd off fr vis ow
theorem ss_if (hc : SWT ct c) (hx : SS t x) (hy : SS u y) : SS (tIfS ct t u) (sIf c x y) := fun pn F T H σ ρ o D st e q => by
  obtain ⟨⟨k, ρ1⟩, h1, e⟩ := bind_some e
  refine hc pn F T H σ ρ k ρ1 st h1 _ fun T1 H1 st1 s1 => ?_
  cases k with
  | true => exact hx pn F T1 H1 σ ρ1 o D st1 e (q.step s1)
  | false => exact hy pn F T1 H1 σ ρ1 o D st1 e (q.step s1)
theorem ss_asg {g : TG} {xg : XG} {vs : List Nat} (hg : SG false g xg vs) (h : SW te w) : SS (tAsg te g) (sAsg xg w) := fun pn F T H σ ρ o D st e q => by
  obtain ⟨⟨d, ρ1⟩, h1, e⟩ := bind_some e
  obtain ⟨ρ2, h2, e⟩ := bind_some e
  cases e
  exact h pn F T H σ ρ d ρ1 st h1 _ fun v T1 H1 st1 s1 rv => hg pn F T1 H1 σ v d ρ1 ρ2 st1 h2 (.inl rv) _ fun σ' T' st' s' _ => q σ' T' H1 st' (s1.trans s')
theorem ss_own {i : Nat} {w : XWO} (hi : i ≠ 0) (h : SWO te w) : SS (tAsg te (gName i)) (sOwn i w) := fun pn F T H σ ρ o D st e q => by
  obtain ⟨⟨cs, ρ1⟩, h1, e⟩ := bind_some e
  by_cases c : i < ρ1.length
  · rw [if_pos c] at e
    cases e
    refine h pn F T H σ ρ cs ρ1 st h1 _ fun v A T' H' st' nd off fr vis ow => ?_
    obtain ⟨st2, vis2⟩ := st'.own hi c ow nd off
    exact q _ _ H' st2 ⟨fr, vis.trans vis2⟩
  · rw [if_neg c] at e; cases e
theorem ss_drop (h : SW te w) : SS (tDrop te) (sDrop w) := fun pn F T H σ ρ o D st e q => by
  obtain ⟨⟨d, ρ1⟩, h1, e⟩ := bind_some e
  cases e
  exact h pn F T H σ ρ d ρ1 st h1 _ fun v T' H' st' s' rv => q σ T' H' st' s'
/-! a cell goes to a slot -/
theorem StOk.cel {pn : Option V} {F : Hs} {T : Trs} {H : Hp} {σ : L2.St} {ρ : Env} {i : Nat} {v : V} {c : Cel} {B : List Addr} (hi : i ≠ 0) (hl : i < ρ.length) (st : StOk pn (FL F B) T H σ ρ) (nd : B.Nodup) (off : ∀ x ∈ B, ¬ F x) (hc : Cels (hid (SF (FL F B) T) H) H [v] [c] B) :
    ∃ T', StOk pn F T' H (σ.set i (some v)) (ρ.set i (toSl c)) ∧ Ex (hid (SF (FL F B) T) H) (hid (SF F T') H) := by
  cases hc with
  | dat r n =>
    cases n
    rw [FL_nil] at st r ⊢
    obtain ⟨st', s⟩ := st.set hi r
    exact ⟨_, st', s.vis⟩
  | sub hb r n =>
    cases n
    obtain ⟨st', vis⟩ := st.own (i := i) hi hl ⟨_, _, [], rfl, hb, Cels.dats r, rfl⟩ nd off
    exact ⟨_, st', vis⟩
theorem ss_par {i j : Nat} {ts : TA} {as : XWC} (hi : i ≠ 0) (hj : j ≠ 0) (hs : SWC ts as) : SS (tPar i j ts) (sPar i j as) := fun pn F T H σ ρ o D st e q => by
  obtain ⟨⟨cs, ρ1⟩, h1, e⟩ := bind_some e
  obtain ⟨⟨c, d⟩, h2, e⟩ := bind_some e
  have ec : cs = _ := two_eq h2
  subst ec
  · skip
    by_cases hl : i < ρ1.length ∧ j < ρ1.length
    · rw [if_pos hl] at e
      cases e
      refine hs pn F T H σ ρ _ ρ1 st h1 _ fun vs B T1 H1 st1 nd off fr vis hc => ?_
      obtain ⟨v, w, rfl⟩ : ∃ v w, vs = [v, w] := by
        have := hc.length
        match vs, this with
        | [v, w], _ => exact ⟨v, w, rfl⟩
      refine ⟨v, w, rfl, ?_⟩
      -- split the addresses
      have split : ∃ B1 B2, B = B1 ++ B2 ∧ Cels (hid (SF (FL F B) T1) H1) H1 [v] [c] B1 ∧ Cels (hid (SF (FL F B) T1) H1) H1 [w] [d] B2 := by
        cases hc with
        | dat r n => exact ⟨[], B, rfl, .dat r .nil, n⟩
        | sub hb r n => exact ⟨[_], _, rfl, .sub hb r .nil, n⟩
      obtain ⟨B1, B2, rfl, c1, c2⟩ := split
      have eF : FL F (B1 ++ B2) = FL (FL F B2) B1 := by rw [FL_app]; exact FL_perm fun x => by simp [or_comm]
      rw [eF] at st1 c1 c2 vis
      have nds := List.nodup_append.mp nd
      obtain ⟨T2, st2, vis2⟩ := StOk.cel (F := FL F B2) hi hl.1 st1 nds.1 (fun x hx z => z.elim (off x (List.mem_append_left _ hx)) fun z => nds.2.2 x hx x z rfl) c1
      have c2' := c2.mv vis2 fun x hx => (rfl : H1 x = H1 x)
      obtain ⟨T3, st3, vis3⟩ := StOk.cel (F := F) hj (by rw [List.length_set]; exact hl.2) st2 nds.2.1 (fun x hx => off x (List.mem_append_right _ hx)) c2'
      exact q _ T3 H1 st3 ⟨fr, (vis.trans vis2).trans vis3⟩
    · rw [if_neg hl] at e; cases e
end
/-! ### writing to owned lists -/
section
variable {G H : Hp}
theorem Cels.snoc : ∀ {vs : List V} {cs : List Cel} {B : List Addr} {v : V} {d : PD}, Cels G H vs cs B → Rp G v d → Cels G H (vs ++ [v]) (cs ++ [.dat d]) B
  | _, _, _, _, _, .nil, r => .dat r .nil
  | _, _, _, _, _, .dat h c, r => .dat h (c.snoc r)
  | _, _, _, _, _, .sub h1 h2 c, r => .sub h1 h2 (c.snoc r)
theorem Cels.app : ∀ {vs us : List V} {cs : List Cel} {ds : List PD} {B : List Addr}, Cels G H vs cs B → RpAll G us ds → Cels G H (vs ++ us) (cs ++ ds.map Cel.dat) B
  | _, _, _, _, _, .nil, r => Cels.dats r
  | _, _, _, _, _, .dat h c, r => .dat h (c.app r)
  | _, _, _, _, _, .sub h1 h2 c, r => .sub h1 h2 (c.app r)
theorem Cels.ins : ∀ (n : Nat) {vs : List V} {cs : List Cel} {B : List Addr} {v : V} {d : PD}, Cels G H vs cs B → Rp G v d → Cels G H (vs.take n ++ [v] ++ vs.drop n) (cs.take n ++ [.dat d] ++ cs.drop n) B
  | 0, _, _, _, _, _, c, r => by simpa using Cels.dat r c
  | n + 1, _, _, _, _, _, .nil, r => by simpa using Cels.dat r .nil
  | n + 1, _, _, _, _, _, .dat h c, r => by simpa using Cels.dat h (c.ins n r)
  | n + 1, _, _, _, _, _, .sub h1 h2 c, r => by simpa using Cels.sub h1 h2 (c.ins n r)
theorem Cels.set : ∀ (n : Nat) {vs : List V} {cs : List Cel} {B : List Addr} {v : V} {d d0 : PD}, Cels G H vs cs B → cs[n]? = some (.dat d0) → Rp G v d → Cels G H (vs.set n v) (cs.set n (.dat d)) B
  | _, _, _, _, _, _, _, .nil, h, _ => by simp at h
  | 0, _, _, _, _, _, _, .dat _ c, _, r => by simpa using Cels.dat r c
  | 0, _, _, _, _, _, _, .sub _ _ c, h, r => by simp at h
  | n + 1, _, _, _, _, _, _, .dat h0 c, h, r => by simpa using Cels.dat h0 (c.set n (by simpa using h) r)
  | n + 1, _, _, _, _, _, _, .sub h1 h2 c, h, r => by simpa using Cels.sub h1 h2 (c.set n (by simpa using h) r)
theorem Cels.erase : ∀ (n : Nat) {vs : List V} {cs : List Cel} {B : List Addr} {d0 : PD}, Cels G H vs cs B → cs[n]? = some (.dat d0) → Cels G H (vs.eraseIdx n) (cs.eraseIdx n) B ∧ ∃ v, vs[n]? = some v ∧ Rp G v d0
  | _, _, _, _, _, .nil, h => by simp at h
  | 0, _, _, _, _, .dat r c, h => by
    cases Option.some.inj (show some (Cel.dat _) = some (Cel.dat _) from h)
    exact ⟨by simpa using c, _, rfl, r⟩
  | 0, _, _, _, _, .sub _ _ c, h => by simp at h
  | n + 1, _, _, _, _, .dat h0 c, h => by
    obtain ⟨c1, v, e, r⟩ := c.erase n (by simpa using h)
    exact ⟨by simpa using Cels.dat h0 c1, v, by simpa using e, r⟩
  | n + 1, _, _, _, _, .sub h1 h2 c, h => by
    obtain ⟨c1, v, e, r⟩ := c.erase n (by simpa using h)
    exact ⟨by simpa using Cels.sub h1 h2 c1, v, by simpa using e, r⟩
/-- the owned list within: where it is, and the whole with it written -/
theorem Cels.inner : ∀ (n : Nat) {vs : List V} {cs : List Cel} {B : List Addr} {ds : List PD}, Cels G H vs cs B → B.Nodup → cs[n]? = some (.sub ds) → ∃ b ws, vs[n]? = some (.ref b) ∧ b ∈ B ∧ H b = some (.lst ws) ∧ RpAll G ws ds ∧
    ∀ (ws' : List V) (ds' : List PD), RpAll G ws' ds' → Cels G (upd H b (.lst ws')) vs (cs.set n (.sub ds')) B
  | _, _, _, _, _, .nil, _, h => by simp at h
  | 0, _, _, _, _, .dat _ c, _, h => by simp at h
  | 0, _, _, _, _, .sub (b := b) hb r c, nd, h => by
    cases Option.some.inj (show some (Cel.sub _) = some (Cel.sub _) from h)
    refine ⟨_, _, rfl, List.mem_cons_self .., hb, r, fun ws' ds' r' => ?_⟩
    have hn := (List.nodup_cons.mp nd).1
    simpa using Cels.sub upd_same r' (c.mv (Ex.refl _) fun x hx => upd_ne fun z => hn (by rw [← z]; exact hx))
  | n + 1, _, _, _, _, .dat h0 c, nd, h => by
    obtain ⟨b, ws, e1, e2, e3, e4, f⟩ := c.inner n nd (by simpa using h)
    exact ⟨b, ws, by simpa using e1, e2, e3, e4, fun ws' ds' r' => by simpa using Cels.dat h0 (f ws' ds' r')⟩
  | n + 1, _, _, _, _, .sub (b := b0) h1 h2 c, nd, h => by
    obtain ⟨hn, nd'⟩ := List.nodup_cons.mp nd
    obtain ⟨b, ws, e1, e2, e3, e4, f⟩ := c.inner n nd' (by simpa using h)
    exact ⟨b, ws, by simpa using e1, List.mem_cons_of_mem _ e2, e3, e4, fun ws' ds' r' => by simpa using Cels.sub (by rw [upd_ne fun z => hn (by rw [z]; exact e2)]; exact h1) h2 (f ws' ds' r')⟩
end
section
variable {pn : Option V} {F : Hs} {T : Trs} {H : Hp} {σ : L2.St} {ρ : Env}
/-- an owned list within an owned list is written -/
theorem StOk.writeSub (st : StOk pn F T H σ ρ) {i n : Nat} {cs : List Cel} {ds ds' : List PD} (hi : ρ[i]? = some (.own cs)) (hn : cs[n]? = some (.sub ds)) : ∃ a vs b ws, σ[i]? = some (some (.ref a)) ∧ H a = some (.lst vs) ∧ vs[n]? = some (.ref b) ∧ vs.length = cs.length ∧ H b = some (.lst ws) ∧ RpAll (hid (SF F T) H) ws ds ∧
    ∀ ws' ds', RpAll (hid (SF F T) H) ws' ds' → StOk pn F T (upd H b (.lst ws')) σ (ρ.set i (.own (cs.set n (.sub ds')))) ∧ Stp F T H T (upd H b (.lst ws')) := by
  obtain ⟨a, vs, B, h1, h2, h3, h4⟩ := st.at_own hi
  have ndA := st.nd i
  rw [h4] at ndA
  obtain ⟨haB, ndB⟩ := List.nodup_cons.mp ndA
  obtain ⟨b, ws, e1, e2, e3, e4, f⟩ := h3.inner n ndB hn
  refine ⟨a, vs, b, ws, h1, h2, e1, h3.length, e3, e4, fun ws' ds' r' => ?_⟩
  have hb : b ∈ T i := by rw [h4]; exact List.mem_cons_of_mem _ e2
  have hS : SF F T b := .inr ⟨i, hb⟩
  have vis : Ex (hid (SF F T) H) (hid (SF F T) (upd H b (.lst ws'))) := fun x o h => by
    obtain ⟨c, h⟩ := hid_some h
    rw [hid_out c, upd_ne (fun z => c (by rw [z]; exact hS))]
    exact h
  have ne : ∀ x, x ≠ b → upd H b (.lst ws') x = H x := fun x h => upd_ne h
  refine ⟨⟨by rw [List.length_set]; exact st.len, fun x h => ?_, st.off, st.dis, st.nd, fun j hj => st.out j (by rw [List.length_set] at hj; exact hj), fun j q hq => ?_, st.pin⟩, ⟨fun x h => ne x fun z => st.off i b hb (by rw [← z]; exact h), vis⟩⟩
  · rw [ne x fun z => st.off i b hb (by rw [← z]; exact h)]
    exact st.al x h
  · by_cases c : i = j
    · subst c
      have hl : i < ρ.length := (List.getElem?_eq_some_iff.mp hi).1
      rw [List.getElem?_set_self hl] at hq
      cases hq
      refine ⟨_, h1, .ref a, rfl, a, vs, B, rfl, by rw [ne a fun z => haB (by rw [z]; exact e2)]; exact h2, (f ws' ds' r').mv vis fun x _ => rfl, h4⟩
    · rw [List.getElem?_set_ne c] at hq
      obtain ⟨o', h5, h6⟩ := st.sl j q hq
      exact ⟨o', h5, h6.mv vis fun x hx => ne x fun z => c (st.dis i j b hb (by rw [← z]; exact hx))⟩
end
def sApp (i : Nat) (a : XW) : XS := fun ρ => (ownAt ρ i).bind fun _ => (a ρ).bind fun x => (ownAt x.2 i).bind fun cs => if cs.length < 100000 then some (.nxt (x.2.set i (.own (cs ++ [.dat x.1])))) else none
def sExt (i : Nat) (a : XW) : XS := fun ρ => (ownAt ρ i).bind fun _ => (a ρ).bind fun x => (asList x.1).bind fun ds => (ownAt x.2 i).bind fun cs => if cs.length + ds.length ≤ 100000 then some (.nxt (x.2.set i (.own (cs ++ ds.map Cel.dat)))) else none
def isI : PD → Option Int
  | .int i => some i
  | _ => none
theorem isI_eq {d : PD} {i : Int} (h : isI d = some i) : d = .int i := by
  cases d with
  | int c => cases h; rfl
  | _ => cases h
def insA : List PD → Option (Int × PD)
  | [.int k, d] => some (k, d)
  | _ => none
theorem insA_eq {ds : List PD} {k : Int} {d : PD} (h : insA ds = some (k, d)) : ds = [.int k, d] := by
  unfold insA at h
  split at h
  · cases h; rfl
  · cases h
def sIns (i : Nat) (as : XWA) : XS := fun ρ => (ownAt ρ i).bind fun _ => (as ρ).bind fun x => (insA x.1).bind fun kd => (ownAt x.2 i).bind fun cs => if cs.length < 100000 ∧ 0 ≤ kd.1 ∧ kd.1 < 2 ^ 63 then some (.nxt (x.2.set i (.own (cs.take kd.1.toNat ++ [.dat kd.2] ++ cs.drop kd.1.toNat)))) else none
def datAt (cs : List Cel) (n : Nat) : Option PD := match cs[n]? with
  | some (.dat d) => some d
  | _ => none
theorem datAt_eq {cs : List Cel} {n : Nat} {d : PD} (h : datAt cs n = some d) : cs[n]? = some (.dat d) := by
  unfold datAt at h
  split at h
  · rename_i e; cases h; exact e
  · cases h
def subAt (cs : List Cel) (n : Nat) : Option (List PD) := match cs[n]? with
  | some (.sub d) => some d
  | _ => none
theorem subAt_eq {cs : List Cel} {n : Nat} {d : List PD} (h : subAt cs n = some d) : cs[n]? = some (.sub d) := by
  unfold subAt at h
  split at h
  · rename_i e; cases h; exact e
  · cases h
def wPop (i : Nat) (a : XW) : XW := fun ρ => (ownAt ρ i).bind fun _ => (a ρ).bind fun x => (isI x.1).bind fun k => (ownAt x.2 i).bind fun cs => if -(2 ^ 63) ≤ k ∧ k < 2 ^ 63 then (ixN cs.length k).bind fun n => (datAt cs n).bind fun d => some (d, x.2.set i (.own (cs.eraseIdx n))) else none
/-- x[k] = e -/
def sSet (i : Nat) (k : XE) (a : XW) : XS := fun ρ => (a ρ).bind fun x => (ownAt x.2 i).bind fun cs => ((k (vw x.2)).bind isI).bind fun k => (ixN cs.length k).bind fun n => (datAt cs n).bind fun _ => some (.nxt (x.2.set i (.own (cs.set n (.dat x.1)))))
/-- x[k][j] = e -/
def sSetS (i : Nat) (k j : XE) (a : XW) : XS := fun ρ => (a ρ).bind fun x => (ownAt x.2 i).bind fun cs => ((k (vw x.2)).bind isI).bind fun k => (ixN cs.length k).bind fun n => (subAt cs n).bind fun ds => ((j (vw x.2)).bind isI).bind fun j => (ixN ds.length j).bind fun m => some (.nxt (x.2.set i (.own (cs.set n (.sub (ds.set m x.1))))))
/-- x[k].pop(j), the item dropped -/
def sPopS (i : Nat) (k j : XE) : XS := fun ρ => (ownAt ρ i).bind fun cs => ((k (vw ρ)).bind isI).bind fun k => (ixN cs.length k).bind fun n => (subAt cs n).bind fun ds => ((j (vw ρ)).bind isI).bind fun j => if -(2 ^ 63) ≤ j ∧ j < 2 ^ 63 then (ixN ds.length j).bind fun m => some (.nxt (ρ.set i (.own (cs.set n (.sub (ds.eraseIdx m)))))) else none
section
variable {te tk tj : TE} {w : XW} {k j : XE}
theorem RpAll.erase {G : Hp} : ∀ {vs : List V} {ds : List PD} (n : Nat), RpAll G vs ds → RpAll G (vs.eraseIdx n) (ds.eraseIdx n)
  | _, _, _, .nil => by simpa using RpAll.nil
  | _, _, 0, .cons _ r => by simpa using r
  | _, _, n + 1, .cons h r => by simpa using RpAll.cons h (r.erase n)
theorem ss_app {i : Nat} (h : SW te w) : SS (tDrop (tBM K "list" rAppend (tVar i) (tCons te tNil))) (sApp i w) := fun pn F T H σ ρ o D st e q => by
  obtain ⟨c0, h0, e⟩ := bind_some e
  obtain ⟨⟨d, ρ1⟩, h1, e⟩ := bind_some e
  obtain ⟨cs, h2, e⟩ := bind_some e
  by_cases hl : cs.length < 100000
  · rw [if_pos hl] at e
    cases e
    obtain ⟨a, vs, B, ha, hv, _⟩ := st.at_own (ownAt_eq h0)
    refine ⟨.ref a, ha, .inl ⟨rfl, _, .inl (.inl hv)⟩, h pn F T H σ ρ d ρ1 st h1 _ fun v T1 H1 st1 s1 rv => ?_⟩
    obtain ⟨a', vs', B', ha', hv', hc', hT⟩ := st1.at_own (ownAt_eq h2)
    have ea : a' = a := by rw [ha'] at ha; cases ha; rfl
    subst ea
    obtain ⟨st2, s2⟩ := st1.write (ownAt_eq h2) hT ha' (hc'.snoc rv)
    exact ⟨a', vs', v, rfl, rfl, hv', by rw [hc'.length]; exact Evl.sz_lt hl, q σ T1 _ st2 (s1.trans s2)⟩
  · rw [if_neg hl] at e; cases e
theorem ss_ext {i : Nat} (h : SW te w) : SS (tDrop (tBM K "list" rExtend (tVar i) (tCons te tNil))) (sExt i w) := fun pn F T H σ ρ o D st e q => by
  obtain ⟨c0, h0, e⟩ := bind_some e
  obtain ⟨⟨d, ρ1⟩, h1, e⟩ := bind_some e
  obtain ⟨ds, hd, e⟩ := bind_some e
  obtain ⟨cs, h2, e⟩ := bind_some e
  by_cases hl : cs.length + ds.length ≤ 100000
  · rw [if_pos hl] at e
    cases e
    have ed : d = .list ds := asList_eq hd
    subst ed
    obtain ⟨a, vs, B, ha, hv, _⟩ := st.at_own (ownAt_eq h0)
    refine ⟨.ref a, ha, .inl ⟨rfl, _, .inl (.inl hv)⟩, h pn F T H σ ρ _ ρ1 st h1 _ fun v T1 H1 st1 s1 rv => ?_⟩
    obtain ⟨a', vs', B', ha', hv', hc', hT⟩ := st1.at_own (ownAt_eq h2)
    have ea : a' = a := by rw [ha'] at ha; cases ha; rfl
    subst ea
    cases rv with
    | lst hb rb =>
      obtain ⟨st2, s2⟩ := st1.write (ownAt_eq h2) hT ha' (hc'.app rb)
      exact ⟨a', _, vs', _, rfl, rfl, hv', hid_le _ _ hb, by rw [hc'.length, rb.length]; exact Evl.sz_of hl, q σ T1 _ st2 (s1.trans s2)⟩
  · rw [if_neg hl] at e; cases e
abbrev rInsQ : V → List V → Hp → VK → Prop := fun x vs H Q => ∃ (l : Addr) (xs : List V) (i : Int) (y : V), x = .ref l ∧ vs = [.int i, y] ∧ H l = some (.lst xs) ∧ xs.length < sizeLine ∧ 0 ≤ i ∧ i < 2 ^ 63 ∧
  Q .non (upd H l (.lst (xs.take i.toNat ++ [y] ++ xs.drop i.toNat)))
theorem ss_ins {i : Nat} {ts : TA} {as : XWA} (h : SWA ts as) : SS (tDrop (tBM K "list" rInsQ (tVar i) ts)) (sIns i as) := fun pn F T H σ ρ o D st e q => by
  obtain ⟨c0, h0, e⟩ := bind_some e
  obtain ⟨⟨xs, ρ1⟩, h1, e⟩ := bind_some e
  obtain ⟨⟨kk, d⟩, hd, e⟩ := bind_some e
  obtain ⟨cs, h2, e⟩ := bind_some e
  by_cases hl : cs.length < 100000 ∧ 0 ≤ kk ∧ kk < 2 ^ 63
  · rw [if_pos hl] at e
    cases e
    have ed : xs = _ := insA_eq hd
    subst ed
    obtain ⟨a, vs, B, ha, hv, _⟩ := st.at_own (ownAt_eq h0)
    refine ⟨.ref a, ha, .inl ⟨rfl, _, .inl (.inl hv)⟩, h pn F T H σ ρ _ ρ1 st h1 _ fun us T1 H1 st1 s1 rv => ?_⟩
    obtain ⟨a', vs', B', ha', hv', hc', hT⟩ := st1.at_own (ownAt_eq h2)
    have ea : a' = a := by rw [ha'] at ha; cases ha; rfl
    subst ea
    cases rv with
    | cons g1 t =>
      cases t with
      | cons g2 t =>
        cases t
        cases g1
        obtain ⟨st2, s2⟩ := st1.write (ownAt_eq h2) hT ha' (hc'.ins kk.toNat g2)
        exact ⟨a', vs', kk, _, rfl, rfl, hv', by rw [hc'.length]; exact Evl.sz_lt hl.1, hl.2.1, hl.2.2, q σ T1 _ st2 (s1.trans s2)⟩
  · rw [if_neg hl] at e; cases e
theorem sw_pop {i : Nat} (h : SW te w) : SW (tBM K "list" rPopAt (tVar i) (tCons te tNil)) (wPop i w) := fun pn F T H σ ρ d ρ' st e Q q => by
  obtain ⟨c0, h0, e⟩ := bind_some e
  obtain ⟨⟨dk, ρ1⟩, h1, e⟩ := bind_some e
  obtain ⟨kk, hk, e⟩ := bind_some e
  obtain ⟨cs, h2, e⟩ := bind_some e
  by_cases hl : -(2 ^ 63) ≤ kk ∧ kk < 2 ^ 63
  · rw [if_pos hl] at e
    obtain ⟨n, hn, e⟩ := bind_some e
    obtain ⟨d1, hd, e⟩ := bind_some e
    cases e
    have ed : dk = _ := isI_eq hk
    subst ed
    obtain ⟨a, vs, B, ha, hv, _⟩ := st.at_own (ownAt_eq h0)
    refine ⟨.ref a, ha, .inl ⟨rfl, _, .inl (.inl hv)⟩, h pn F T H σ ρ _ ρ1 st h1 _ fun v T1 H1 st1 s1 rv => ?_⟩
    obtain ⟨a', vs', B', ha', hv', hc', hT⟩ := st1.at_own (ownAt_eq h2)
    have ea : a' = a := by rw [ha'] at ha; cases ha; rfl
    subst ea
    cases rv
    obtain ⟨hc2, y, hy, ry⟩ := hc'.erase n (datAt_eq hd)
    obtain ⟨st2, s2⟩ := st1.write (ownAt_eq h2) hT ha' hc2
    refine ⟨a', vs', kk, n, y, rfl, rfl, hv', hl.1, hl.2, (ixN_seq (by rw [hc'.length]; exact hn)).1, hy, q y T1 _ st2 (s1.trans s2) (ry.ex s2.vis)⟩
  · rw [if_neg hl] at e; cases e
theorem ss_set {i : Nat} (hk : SE tk k) (h : SW te w) : SS (tAsg te (gSub (tVar i) tk rSetL)) (sSet i k w) := fun pn F T H σ ρ o D st e q => by
  obtain ⟨⟨d, ρ1⟩, h1, e⟩ := bind_some e
  obtain ⟨cs, h2, e⟩ := bind_some e
  obtain ⟨kk, h3, e⟩ := bind_some e
  obtain ⟨dk, h3, h4⟩ := bind_some h3
  obtain ⟨n, hn, e⟩ := bind_some e
  obtain ⟨d0, hd, e⟩ := bind_some e
  cases e
  have ed : dk = _ := isI_eq h4
  subst ed
  refine h pn F T H σ ρ d ρ1 st h1 _ fun v T1 H1 st1 s1 rv => ?_
  obtain ⟨a', vs', B', ha', hv', hc', hT⟩ := st1.at_own (ownAt_eq h2)
  refine ⟨.ref a', ha', hk _ _ h3 F σ H1 st1.al st1.vw _ fun vk H2 e2 rk => ?_⟩
  cases rk
  have st2 := st1.ex e2
  have s2 : Stp F T1 H1 T1 H2 := Stp.ex st1.al e2
  obtain ⟨a2, vs2, B2, ha2, hv2, hc2, hT2⟩ := st2.at_own (ownAt_eq h2)
  have ea : a2 = a' := by rw [ha2] at ha'; cases ha'; rfl
  subst ea
  obtain ⟨st3, s3⟩ := st2.write (ownAt_eq h2) hT2 ha2 (hc2.set n (datAt_eq hd) (rv.ex s2.vis))
  exact ⟨a2, vs2, kk, n, rfl, rfl, hv2, by rw [hc2.length]; exact hn, q σ T1 _ st3 ((s1.trans s2).trans s3)⟩
/-- reading x[k], a list within -/
theorem ix_sub {pn : Option V} {F : Hs} {T : Trs} {H : Hp} {σ : L2.St} {ρ : Env} (st : StOk pn F T H σ ρ) {i n : Nat} {cs : List Cel} {ds : List PD} {kk : Int} (hi : ρ[i]? = some (.own cs)) (hn : ixN cs.length kk = some n) (hs : cs[n]? = some (.sub ds)) (hk : SE tk k) (h3 : k (vw ρ) = some (.int kk)) {Q : VK}
    (q : ∀ b H2, Ex H H2 → (∃ a vs, σ[i]? = some (some (.ref a)) ∧ H2 a = some (.lst vs) ∧ vs[n]? = some (.ref b)) → Q (.ref b) H2) : tOp (rIx K) (tVar i) tk σ H Q := by
  obtain ⟨a, vs, b, ws, g1, g2, g3, g4, g5, g6, f⟩ := st.writeSub (ds' := ds) hi hs
  refine ⟨.ref a, g1, hk _ _ h3 F σ H st.al st.vw _ fun vk H2 e2 rk => ?_⟩
  cases rk
  refine .inl ⟨a, vs, kk, .ref b, rfl, rfl, .inl (.inl (e2 _ _ g2)), ?_, q b H2 e2 ⟨a, vs, g1, e2 _ _ g2, g3⟩⟩
  unfold atI
  rw [g4, hn]
  exact g3
theorem ss_setS {i : Nat} (hk : SE tk k) (hj : SE tj j) (h : SW te w) : SS (tAsg te (gSub (tOp (rIx K) (tVar i) tk) tj rSetL)) (sSetS i k j w) := fun pn F T H σ ρ o D st e q => by
  obtain ⟨⟨d, ρ1⟩, h1, e⟩ := bind_some e
  obtain ⟨cs, h2, e⟩ := bind_some e
  obtain ⟨kk, h3, e⟩ := bind_some e
  obtain ⟨dk, h3, h4⟩ := bind_some h3
  obtain ⟨n, hn, e⟩ := bind_some e
  obtain ⟨ds, hd, e⟩ := bind_some e
  obtain ⟨jj, h5, e⟩ := bind_some e
  obtain ⟨dj, h5, h6⟩ := bind_some h5
  obtain ⟨m, hm, e⟩ := bind_some e
  cases e
  have ed : dk = _ := isI_eq h4
  subst ed
  have ed : dj = _ := isI_eq h6
  subst ed
  refine h pn F T H σ ρ d ρ1 st h1 _ fun v T1 H1 st1 s1 rv => ?_
  refine ix_sub st1 (ownAt_eq h2) hn (subAt_eq hd) hk h3 fun b H2 e2 hb => ?_
  have st2 := st1.ex e2
  have s2 : Stp F T1 H1 T1 H2 := Stp.ex st1.al e2
  refine hj _ _ h5 F σ H2 st2.al st2.vw _ fun vj H3 e3 rj => ?_
  cases rj
  have st3 := st2.ex e3
  have s3 : Stp F T1 H2 T1 H3 := Stp.ex st2.al e3
  obtain ⟨a, vs, b', ws, g1, g2, g3, g4, g5, g6, f⟩ := st3.writeSub (ds' := ds) (ownAt_eq h2) (subAt_eq hd)
  obtain ⟨a2, vs2, k1, k2, k3⟩ := hb
  have ea : a2 = a := by rw [k1] at g1; cases g1; rfl
  subst ea
  have ev : vs2 = vs := by have := e3 _ _ k2; rw [this] at g2; cases g2; rfl
  subst ev
  have eb : b' = b := by rw [k3] at g3; cases g3; rfl
  subst eb
  obtain ⟨st4, s4⟩ := f (ws.set m v) (ds.set m d) (g6.set m ((rv.ex s2.vis).ex s3.vis))
  exact ⟨b', ws, jj, m, rfl, rfl, g5, by rw [g6.length]; exact hm, q σ T1 _ st4 (((s1.trans s2).trans s3).trans s4)⟩
theorem ss_popS {i : Nat} (hk : SE tk k) (hj : SE tj j) : SS (tDrop (tBM K "list" rPopAt (tOp (rIx K) (tVar i) tk) (tCons tj tNil))) (sPopS i k j) := fun pn F T H σ ρ o D st e q => by
  obtain ⟨cs, h2, e⟩ := bind_some e
  obtain ⟨kk, h3, e⟩ := bind_some e
  obtain ⟨dk, h3, h4⟩ := bind_some h3
  obtain ⟨n, hn, e⟩ := bind_some e
  obtain ⟨ds, hd, e⟩ := bind_some e
  obtain ⟨jj, h5, e⟩ := bind_some e
  obtain ⟨dj, h5, h6⟩ := bind_some h5
  by_cases hl : -(2 ^ 63) ≤ jj ∧ jj < 2 ^ 63
  · rw [if_pos hl] at e
    obtain ⟨m, hm, e⟩ := bind_some e
    cases e
    have ed : dk = _ := isI_eq h4
    subst ed
    have ed : dj = _ := isI_eq h6
    subst ed
    refine ix_sub st (ownAt_eq h2) hn (subAt_eq hd) hk h3 fun b H2 e2 hb => ?_
    have st2 := st.ex e2
    have s2 : Stp F T H T H2 := Stp.ex st.al e2
    obtain ⟨a, vs, b', ws, g1, g2, g3, g4, g5, g6, f⟩ := st2.writeSub (ds' := ds) (ownAt_eq h2) (subAt_eq hd)
    obtain ⟨a2, vs2, k1, k2, k3⟩ := hb
    have ea : a2 = a := by rw [k1] at g1; cases g1; rfl
    subst ea
    have ev : vs2 = vs := by rw [k2] at g2; cases g2; rfl
    subst ev
    have eb : b' = b := by rw [k3] at g3; cases g3; rfl
    subst eb
    refine ⟨.inl ⟨rfl, _, .inl (.inl g5)⟩, hj _ _ h5 F σ H2 st2.al st2.vw _ fun vj H3 e3 rj => ?_⟩
    cases rj
    have st3 := st2.ex e3
    have s3 : Stp F T H2 T H3 := Stp.ex st2.al e3
    clear f
    obtain ⟨a7, vs7, b7, ws7, u1, u2, u3, u4, u5, u6, f7⟩ := st3.writeSub (ds' := ds) (ownAt_eq h2) (subAt_eq hd)
    have ea : a7 = a2 := by rw [k1] at u1; cases u1; rfl
    subst ea
    have ev : vs7 = vs2 := by have := e3 _ _ k2; rw [this] at u2; cases u2; rfl
    subst ev
    have eb : b7 = b' := by rw [k3] at u3; cases u3; rfl
    subst eb
    obtain ⟨st4, s4⟩ := f7 (ws7.eraseIdx m) (ds.eraseIdx m) (u6.erase m)
    have hm' : ixN ws7.length jj = some m := by rw [u6.length]; exact hm
    obtain ⟨q1, q2, _, _⟩ := ixN_seq hm'
    exact ⟨b7, ws7, jj, m, ws7[m], rfl, rfl, u5, hl.1, hl.2, q1, List.getElem?_eq_getElem q2, q σ T _ st4 ((s2.trans s3).trans s4)⟩
  · rw [if_neg hl] at e; cases e
end
end Uv

namespace Uv
open PySem PySem.Spec PyProof.Rows L2
open Evl (Ex)
variable [kk : KK]
/-! ### loops -/
def forGo (g : XG) (b : XS) : List PD → Env → Option Out
  | [], ρ => some (.nxt ρ)
  | x :: xs, ρ => (g x ρ).bind fun ρ1 => (b ρ1).bind fun o => match o with
    | .nxt ρ2 => forGo g b xs ρ2
    | .cnt ρ2 => forGo g b xs ρ2
    | .brk ρ2 => some (.nxt ρ2)
    | .ret d ρ2 => some (.ret d ρ2)
    | .retO d ρ2 => some (.retO d ρ2)
def sFor (src : XWI) (g : XG) (b : XS) : XS := fun ρ => (src ρ).bind fun x => forGo g b x.1 x.2
theorem ss_for {bb : Bool} {wi : TI} {g : TG} {tb : TS} {vs : List Nat} {src : XWI} {xg : XG} {b : XS} (hs : SWI bb wi src) (hg : SG bb g xg vs) (hb : SS tb b) : SS (tFor wi g tb) (sFor src xg b) := fun pn F T H σ ρ o D st e q => by
  obtain ⟨⟨xs, ρ1⟩, h1, e⟩ := bind_some e
  have e : forGo xg b xs ρ1 = some o := e
  refine hs pn F T H σ ρ xs ρ1 st h1 _ fun J T1 H1 st1 s1 wk => ?_
  refine ⟨fun i m σ' H' => m = xs.length - i ∧ i ≤ xs.length ∧ ∃ T' ρ', StOk pn F T' H' σ' ρ' ∧ Stp F T1 H1 T' H' ∧ forGo xg b (xs.drop i) ρ' = some o, ⟨_, rfl, Nat.zero_le _, T1, ρ1, st1, Stp.refl, e⟩, fun i m σ' H' hw => ?_⟩
  obtain ⟨rfl, hi, T', ρ', st', s', hgo⟩ := hw
  obtain ⟨w1, w2⟩ := wk _ H' s'.vis st'.als
  by_cases hlt : i < xs.length
  · obtain ⟨w3, w4⟩ := w2 i _ (List.getElem?_eq_getElem hlt)
    rw [List.drop_eq_getElem_cons hlt] at hgo
    obtain ⟨ρ2, g1, hgo⟩ := bind_some (show (xg xs[i] ρ').bind _ = some o from hgo)
    obtain ⟨o2, b1, hgo⟩ := bind_some hgo
    refine .inr ⟨w3, fun σ2 H2 => ∃ T2 ρ2, StOk pn F T2 H2 σ2 ρ2 ∧ Stp F T1 H1 T2 H2 ∧ forGo xg b (xs.drop (i + 1)) ρ2 = some o, fun σ2 H2 hn => ⟨_, by omega, rfl, hlt, hn⟩, fun v H3 y => ?_⟩
    obtain ⟨e3, rv⟩ := w4 v H3 y
    have st3 := st'.ex e3
    have s3 : Stp F T' H' T' H3 := Stp.ex st'.al e3
    refine hg pn F T' H3 σ' v _ ρ' ρ2 st3 g1 rv _ fun σ4 T4 st4 s4 _ => ?_
    have s14 := (s'.trans s3).trans s4
    cases o2 with
    | nxt ρ5 => exact hb pn F T4 H3 σ4 ρ2 _ _ st4 b1 fun σ5 T5 H5 st5 s5 => ⟨T5, ρ5, st5, s14.trans s5, hgo⟩
    | cnt ρ5 => exact hb pn F T4 H3 σ4 ρ2 _ _ st4 b1 fun σ5 T5 H5 st5 s5 => ⟨T5, ρ5, st5, s14.trans s5, hgo⟩
    | brk ρ5 =>
      cases hgo
      exact hb pn F T4 H3 σ4 ρ2 _ _ st4 b1 fun σ5 T5 H5 st5 s5 => q σ5 T5 H5 st5 (s1.trans (s14.trans s5))
    | ret d ρ5 =>
      cases hgo
      exact hb pn F T4 H3 σ4 ρ2 _ _ st4 b1 (OutOk.on (fun _ z => nomatch z) (fun _ z => nomatch z) (fun _ z => nomatch z) (q.step (s1.trans s14)))
    | retO d ρ5 =>
      cases hgo
      exact hb pn F T4 H3 σ4 ρ2 _ _ st4 b1 (OutOk.on (fun _ z => nomatch z) (fun _ z => nomatch z) (fun _ z => nomatch z) (q.step (s1.trans s14)))
  · have ei : i = xs.length := by omega
    subst ei
    rw [List.drop_length] at hgo
    cases hgo
    exact .inl ⟨w1, q σ' T' H' st' (s1.trans s')⟩
def whGo (c : XWT) (b : XS) : Nat → Env → Option Out
  | 0, _ => none
  | n + 1, ρ => (c ρ).bind fun k => if k.1 = true then (b k.2).bind fun o => match o with
    | .nxt ρ2 => whGo c b n ρ2
    | .cnt ρ2 => whGo c b n ρ2
    | .brk ρ2 => some (.nxt ρ2)
    | .ret d ρ2 => some (.ret d ρ2)
    | .retO d ρ2 => some (.retO d ρ2)
    else some (.nxt k.2)
/-- how often a while may go round -/
def fuel : Nat := 100000
theorem fuel_lt {k : Nat} (h : k < 100000) : k < fuel := h
def sWhile (n : Nat) (c : XWT) (b : XS) : XS := whGo c b n
theorem ss_while {n : Nat} {ct : TT} {tb : TS} {c : XWT} {b : XS} (hc : SWT ct c) (hb : SS tb b) : SS (tWhile ct tb) (sWhile n c b) := fun pn F T H σ ρ o D st e q => by
  refine ⟨fun m σ' H' => ∃ T' ρ', StOk pn F T' H' σ' ρ' ∧ Stp F T H T' H' ∧ whGo c b m ρ' = some o, ⟨n, T, ρ, st, Stp.refl, e⟩, fun m σ' H' hw => ?_⟩
  obtain ⟨T', ρ', st', s', hgo⟩ := hw
  cases m with
  | zero => cases hgo
  | succ m =>
    obtain ⟨⟨k, ρ1⟩, h1, hgo⟩ := bind_some (show (c ρ').bind _ = some o from hgo)
    refine hc pn F T' H' σ' ρ' k ρ1 st' h1 _ fun T1 H1 st1 s1 => ?_
    cases k with
    | false => cases hgo; exact iteF (q σ' T1 H1 st1 (s'.trans s1))
    | true =>
      obtain ⟨o2, b1, hgo⟩ := bind_some (show (b ρ1).bind _ = some o from hgo)
      refine iteT ⟨fun σ2 H2 => ∃ T2 ρ2, StOk pn F T2 H2 σ2 ρ2 ∧ Stp F T H T2 H2 ∧ whGo c b m ρ2 = some o, fun σ2 H2 hn => ⟨m, Nat.lt_succ_self _, hn⟩, ?_⟩
      have s2 := s'.trans s1
      cases o2 with
      | nxt ρ5 => exact hb pn F T1 H1 σ' ρ1 _ _ st1 b1 fun σ5 T5 H5 st5 s5 => ⟨T5, ρ5, st5, s2.trans s5, hgo⟩
      | cnt ρ5 => exact hb pn F T1 H1 σ' ρ1 _ _ st1 b1 fun σ5 T5 H5 st5 s5 => ⟨T5, ρ5, st5, s2.trans s5, hgo⟩
      | brk ρ5 =>
        cases hgo
        exact hb pn F T1 H1 σ' ρ1 _ _ st1 b1 fun σ5 T5 H5 st5 s5 => q σ5 T5 H5 st5 (s2.trans s5)
      | ret d ρ5 =>
        cases hgo
        exact hb pn F T1 H1 σ' ρ1 _ _ st1 b1 (OutOk.on (fun _ z => nomatch z) (fun _ z => nomatch z) (fun _ z => nomatch z) (q.step s2))
      | retO d ρ5 =>
        cases hgo
        exact hb pn F T1 H1 σ' ρ1 _ _ st1 b1 (OutOk.on (fun _ z => nomatch z) (fun _ z => nomatch z) (fun _ z => nomatch z) (q.step s2))
/-! ### an owned list becomes data for good -/
def fzE (ρ : Env) (i : Nat) : Env := match ρ[i]? with
  | some (.own cs) => ρ.set i (.dat (.list (cs.map Cel.pd)))
  | _ => ρ
def sFz (i : Nat) (y : XS) : XS := fun ρ => y (fzE ρ i)
theorem StOk.fz1 {pn : Option V} {F : Hs} {T : Trs} {H : Hp} {σ : L2.St} {ρ : Env} (st : StOk pn F T H σ ρ) (i : Nat) : ∃ T', StOk pn F T' H σ (fzE ρ i) ∧ Stp F T H T' H := by
  unfold fzE
  cases hi : ρ[i]? with
  | none => exact ⟨T, st, Stp.refl⟩
  | some s =>
    cases s with
    | un => exact ⟨T, st, Stp.refl⟩
    | dat d => exact ⟨T, st, Stp.refl⟩
    | dic l => exact ⟨T, st, Stp.refl⟩
    | own cs =>
      have sub : Ex (hid (SF F T) H) (hid (SF F (setT T i [])) H) := hid_sub SF_setT_nil
      have mem : ∀ j x, x ∈ setT T i [] j → x ∈ T j ∧ j ≠ i := fun j x h => by
        by_cases c : j = i
        · subst c; rw [setT_same] at h; cases h
        · rw [setT_ne c] at h; exact ⟨h, c⟩
      refine ⟨setT T i [], ⟨by rw [List.length_set]; exact st.len, st.al, fun j x h => st.off j x (mem j x h).1, fun j k x h h' => st.dis j k x (mem j x h).1 (mem k x h').1, fun j => ?_, fun j hj => ?_, fun j q hq => ?_, st.pin⟩, ⟨fun _ _ => rfl, sub⟩⟩
      · by_cases c : j = i
        · subst c; rw [setT_same]; exact List.nodup_nil
        · rw [setT_ne c]; exact st.nd j
      · rw [List.length_set] at hj
        by_cases c : j = i
        · subst c; rw [setT_same]
        · rw [setT_ne c]; exact st.out j hj
      · by_cases c : i = j
        · subst c
          have hl : i < ρ.length := (List.getElem?_eq_some_iff.mp hi).1
          rw [List.getElem?_set_self hl] at hq
          cases hq
          obtain ⟨o, h1, v, rfl, ow⟩ := st.sl i _ hi
          rw [setT_same]
          refine ⟨_, h1, rfl, v, rfl, ow.rp sub fun x hx => hid_out ?_⟩
          rintro (z | ⟨j, z⟩)
          · exact st.off i x hx z
          · obtain ⟨z1, z2⟩ := mem j x z
            exact z2 (st.dis j i x z1 hx)
        · rw [List.getElem?_set_ne c] at hq
          obtain ⟨o', h1, h2⟩ := st.sl j q hq
          rw [setT_ne (fun z => c z.symm)]
          exact ⟨o', h1, h2.mv sub fun _ _ => rfl⟩
theorem ss_fz {i : Nat} {t : TS} {y : XS} (h : SS t y) : SS t (sFz i y) := fun pn F T H σ ρ o D st e q => by
  obtain ⟨T', st', s'⟩ := st.fz1 i
  exact h pn F T' H σ _ o D st' e (q.step s')
/-! ### comprehensions that draw -/
def clearE (ρ : Env) : List Nat → Env
  | [] => ρ
  | v :: vs => (clearE ρ vs).set v .un
def keepD : Option Sl → Sl
  | some (.dat d) => .dat d
  | _ => .un
def backE (ρ1 ρ : Env) : List Nat → Env
  | [] => ρ
  | v :: vs => (backE ρ1 ρ vs).set v (keepD ρ1[v]?)
theorem StOk.clear {pn : Option V} {F : Hs} {H : Hp} {σ : L2.St} {ρ : Env} : ∀ {T : Trs} (vs : List Nat), 0 ∉ vs → StOk pn F T H σ ρ → ∃ T', StOk pn F T' H (wipe σ vs) (clearE ρ vs) ∧ Stp F T H T' H
  | T, [], _, st => ⟨T, st, Stp.refl⟩
  | T, v :: vs, h0, st => by
    obtain ⟨T1, st1, s1⟩ := StOk.clear vs (fun z => h0 (List.mem_cons_of_mem _ z)) st
    obtain ⟨st2, s2⟩ := st1.drop (i := v) (o := none) (s := .un) (fun z => h0 (by rw [z]; exact List.mem_cons_self ..)) rfl
    exact ⟨_, st2, s1.trans s2⟩
theorem clearE_len {ρ : Env} : ∀ vs : List Nat, (clearE ρ vs).length = ρ.length
  | [] => rfl
  | v :: vs => by unfold clearE; rw [List.length_set, clearE_len vs]
theorem backE_len {ρ1 ρ : Env} : ∀ vs : List Nat, (backE ρ1 ρ vs).length = ρ.length
  | [] => rfl
  | v :: vs => by unfold backE; rw [List.length_set, backE_len vs]
theorem clearE_off {ρ : Env} {i : Nat} : ∀ {vs : List Nat}, i ∉ vs → (clearE ρ vs)[i]? = ρ[i]?
  | [], _ => rfl
  | v :: vs, h => by
    unfold clearE
    rw [List.getElem?_set_ne (fun z => h (by rw [← z]; exact List.mem_cons_self ..))]
    exact clearE_off fun z => h (List.mem_cons_of_mem _ z)
theorem clearE_at {ρ : Env} {i : Nat} : ∀ {vs : List Nat}, i ∈ vs → i < ρ.length → (clearE ρ vs)[i]? = some .un
  | v :: vs, h, hl => by
    unfold clearE
    by_cases c : v = i
    · subst c; exact List.getElem?_set_self (by rw [clearE_len]; exact hl)
    · rw [List.getElem?_set_ne c]
      exact clearE_at ((List.mem_cons.mp h).resolve_left fun z => c z.symm) hl
theorem backE_off {ρ1 ρ : Env} {i : Nat} : ∀ {vs : List Nat}, i ∉ vs → (backE ρ1 ρ vs)[i]? = ρ[i]?
  | [], _ => rfl
  | v :: vs, h => by
    unfold backE
    rw [List.getElem?_set_ne (fun z => h (by rw [← z]; exact List.mem_cons_self ..))]
    exact backE_off fun z => h (List.mem_cons_of_mem _ z)
theorem backE_at {ρ1 ρ : Env} {i : Nat} : ∀ {vs : List Nat}, i ∈ vs → i < ρ.length → (backE ρ1 ρ vs)[i]? = some (keepD ρ1[i]?)
  | v :: vs, h, hl => by
    unfold backE
    by_cases c : v = i
    · subst c; exact List.getElem?_set_self (by rw [backE_len]; exact hl)
    · rw [List.getElem?_set_ne c]
      exact backE_at ((List.mem_cons.mp h).resolve_left fun z => c z.symm) hl
def wlGo (g : XG) (t : XWT) (e : XW) (vs : List Nat) : List PD → Env → Option (List PD × Env)
  | [], ρ => some ([], ρ)
  | x :: xs, ρ => (g x (clearE ρ vs)).bind fun ρ1 => (t ρ1).bind fun b => if b.1 = true then (e b.2).bind fun d => (wlGo g t e vs xs d.2).bind fun r => some (d.1 :: r.1, r.2) else wlGo g t e vs xs b.2
def wLc (src : XWI) (g : XG) (t : XWT) (e : XW) (vs : List Nat) : XWO := fun ρ => (src ρ).bind fun x => if x.1.length ≤ 40000 then (wlGo g t e vs x.1 x.2).bind fun r => some (r.1.map Cel.dat, backE x.2 r.2 vs) else none
theorem wl_step {g : XG} {t : XWT} {e : XW} {vs : List Nat} {ρ : Env} {x : PD} {xs : List PD} {r : List PD × Env} (h : wlGo g t e vs (x :: xs) ρ = some r) : ∃ ρ1 b ρ2, g x (clearE ρ vs) = some ρ1 ∧ t ρ1 = some (b, ρ2) ∧ ((b = true ∧ ∃ d ρ3 r', e ρ2 = some (d, ρ3) ∧ wlGo g t e vs xs ρ3 = some r' ∧ r = (d :: r'.1, r'.2)) ∨ (b = false ∧ wlGo g t e vs xs ρ2 = some r)) := by
  obtain ⟨ρ1, h1, h⟩ := bind_some (show (g x (clearE ρ vs)).bind _ = some r from h)
  obtain ⟨⟨b, ρ2⟩, h2, h⟩ := bind_some h
  refine ⟨ρ1, b, ρ2, h1, h2, ?_⟩
  cases b with
  | true =>
    obtain ⟨⟨d, ρ3⟩, h3, h⟩ := bind_some (show (e ρ2).bind _ = some r from h)
    obtain ⟨r', h4, h⟩ := bind_some h
    cases h
    exact .inl ⟨rfl, d, ρ3, r', h3, h4, rfl⟩
  | false => exact .inr ⟨rfl, h⟩
theorem swo_lc {b : Bool} {wi : TI} {g : TG} {tt : TT} {te : TE} {vs us : List Nat} {src : XWI} {xg : XG} {t : XWT} {e : XW} (hs : SWI b wi src) (hg : SG b g xg us) (hu : ∀ i ∈ us, i ∈ vs) (h0 : 0 ∉ vs) (ht : SWT tt t) (he : SW te e) : SWO (tLc wi g tt te vs) (wLc src xg t e vs) := fun pn F T H σ ρ cs ρ' st hh Q q => by
  obtain ⟨⟨xs, ρ1⟩, h1, hh⟩ := bind_some hh
  by_cases hz : xs.length ≤ 40000
  · rw [if_pos hz] at hh
    obtain ⟨r, h2, hh⟩ := bind_some hh
    have h2 : wlGo xg t e vs xs ρ1 = some r := h2
    cases hh
    refine hs pn F T H σ ρ xs ρ1 st h1 _ fun J T1 H1 st1 s1 wk D hD => ?_
    have alD : ∀ {H' : Hp} {v : HO}, H' D = some v → H' D ≠ none := fun e z => by rw [e] at z; cases z
    obtain ⟨st2, vis2⟩ := st1.fresh (Ex.new (o := .lst []) hD) hD (by rw [upd_same]; exact fun z => nomatch z)
    obtain ⟨T3, st3, s3⟩ := st2.clear vs h0
    have npF : ∀ x, F x → x ≠ D := fun x hx z => by
      have := st1.al x hx
      rw [z, hD] at this
      exact this rfl
    refine ⟨fun i m H' => m = xs.length - i ∧ i ≤ xs.length ∧ ∃ T' ρ' acc ds1 r', StOk pn (FL F [D]) T' H' (wipe σ vs) (clearE ρ' vs) ∧ ρ'.length = ρ1.length ∧ (∀ x, F x → H' x = H1 x) ∧ Ex (hid (SF F T1) H1) (hid (SF (FL F [D]) T') H') ∧ H' D = some (.lst acc) ∧ acc.length ≤ i ∧ RpAll (hid (SF (FL F [D]) T') H') acc ds1 ∧ wlGo xg t e vs (xs.drop i) ρ' = some r' ∧ r = (ds1 ++ r'.1, r'.2),
      ⟨_, rfl, Nat.zero_le _, T3, ρ1, [], [], r, st3, rfl, fun x hx => upd_ne (npF x hx), vis2.trans s3.vis, upd_same, Nat.le_refl _, .nil, h2, rfl⟩, fun i m H' hw => ?_⟩
    obtain ⟨rfl, hi, T', ρ', acc, ds1, r', st', hlen, fr', vis', hacc, la, ra, hgo, hr⟩ := hw
    obtain ⟨w1, w2⟩ := wk _ H' vis' st'.als
    by_cases hlt : i < xs.length
    · obtain ⟨w3, w4⟩ := w2 i _ (List.getElem?_eq_getElem hlt)
      rw [List.drop_eq_getElem_cons hlt] at hgo
      obtain ⟨ρ4, b4, ρ5, g4, t4, alt⟩ := wl_step hgo
      refine .inr ⟨w3, fun H2 => ∃ T' ρ' acc ds1 r', StOk pn (FL F [D]) T' H2 (wipe σ vs) (clearE ρ' vs) ∧ ρ'.length = ρ1.length ∧ (∀ x, F x → H2 x = H1 x) ∧ Ex (hid (SF F T1) H1) (hid (SF (FL F [D]) T') H2) ∧ H2 D = some (.lst acc) ∧ acc.length ≤ i + 1 ∧ RpAll (hid (SF (FL F [D]) T') H2) acc ds1 ∧ wlGo xg t e vs (xs.drop (i + 1)) ρ' = some r' ∧ r = (ds1 ++ r'.1, r'.2), fun H2 hn => ⟨_, by omega, rfl, hlt, hn⟩, fun v H3 y => ?_⟩
      obtain ⟨e3, rv⟩ := w4 v H3 y
      have st3 := st'.ex e3
      have s3 : Stp (FL F [D]) T' H' T' H3 := Stp.ex st'.al e3
      refine hg pn (FL F [D]) T' H3 (wipe σ vs) v _ _ ρ4 st3 g4 rv _ fun σ4 T4 st4 s4 off => ⟨wipe_off off hu, ?_⟩
      refine ht pn (FL F [D]) T4 H3 σ4 ρ4 b4 ρ5 st4 t4 _ fun T5 H5 st5 s5 => ?_
      have s15 := (s3.trans s4).trans s5
      have hD5 : H5 D = some (.lst acc) := by rw [s15.fr D (.inr (List.mem_cons_self ..))]; exact hacc
      rcases alt with ⟨rfl, d, ρ6, r6, f1, f2, rfl⟩ | ⟨rfl, f2⟩
      · show te σ4 H5 _
        refine he pn (FL F [D]) T5 H5 σ4 ρ5 d ρ6 st5 f1 _ fun z T6 H6 st6 s6 rz => ?_
        have s16 := s15.trans s6
        have hD6 : H6 D = some (.lst acc) := by rw [s6.fr D (.inr (List.mem_cons_self ..))]; exact hD5
        refine ⟨acc, hD6, Evl.sz_lt (by omega), ?_⟩
        have hS : SF (FL F [D]) T6 D := .inl (.inr (List.mem_cons_self ..))
        have vis7 : Ex (hid (SF (FL F [D]) T6) H6) (hid (SF (FL F [D]) T6) (upd H6 D (.lst (acc ++ [z])))) := fun x o h => by
          obtain ⟨c, h⟩ := hid_some h
          rw [hid_out c, upd_ne (fun z => c (by rw [z]; exact hS))]
          exact h
        have st7 : StOk pn (FL F [D]) T6 (upd H6 D (.lst (acc ++ [z]))) σ4 ρ6 := st6.mv vis7 (fun j x hx => upd_ne fun z => st6.off j x hx (by rw [z]; exact .inr (List.mem_cons_self ..))) fun x hx => by
          by_cases c : x = D
          · subst c; rw [upd_same]; exact fun z => nomatch z
          · rw [upd_ne c]; exact st6.al x hx
        obtain ⟨T8, st8, s8⟩ := st7.clear vs h0
        rw [wipe_off off hu] at st8
        have vis8 := vis7.trans s8.vis
        refine ⟨T8, ρ6, acc ++ [z], ds1 ++ [d], r6, st8, ?_, fun x hx => ?_, ((vis'.trans s16.vis).trans vis8), upd_same, by rw [List.length_append]; simpa using la, RpAll.append (ra.ex (s16.vis.trans vis8)) (.cons (rz.ex vis8) .nil), f2, by rw [hr]; simp⟩
        · have l6 := st6.len
          have l5 := off.1
          rw [wipe_length] at l5
          have l1 := st1.len
          omega
        · rw [upd_ne (npF x hx), s16.fr x (.inl hx)]
          exact fr' x hx
      · obtain ⟨T8, st8, s8⟩ := st5.clear vs h0
        rw [wipe_off off hu] at st8
        refine ⟨T8, ρ5, acc, ds1, r', st8, ?_, fun x hx => ?_, (vis'.trans s15.vis).trans s8.vis, hD5, by omega, ra.ex (s15.vis.trans s8.vis), f2, hr⟩
        · have l6 := st5.len
          have l5 := off.1
          rw [wipe_length] at l5
          have l1 := st1.len
          omega
        · rw [s15.fr x (.inl hx)]
          exact fr' x hx
    · have ei : i = xs.length := by omega
      subst ei
      rw [List.drop_length] at hgo
      cases hgo
      rw [List.append_nil] at hr
      subst hr
      refine .inl ⟨w1, q (.ref D) [D] T' H' ⟨?_, st'.al, st'.off, st'.dis, st'.nd, fun j hj => st'.out j (by rw [backE_len] at hj; rw [clearE_len]; exact hj), fun j s hj => ?_, fun v hv => st1.pin v hv⟩ (by simp) (fun x hx => ?_) (fun x hx => (fr' x hx).trans (s1.fr x hx)) (s1.vis.trans vis') ⟨D, acc, [], rfl, hacc, Cels.dats ra, rfl⟩⟩
      · rw [backE_len, hlen]; exact st1.len
      · have hjl : j < ρ'.length := by
          have := (List.getElem?_eq_some_iff.mp hj).1
          rw [backE_len] at this
          exact this
        by_cases c : j ∈ vs
        · rw [backE_at c hjl] at hj
          cases hj
          obtain ⟨o', _, h2⟩ := st'.sl j .un (clearE_at c hjl)
          have hT : T' j = [] := h2
          have hσ : j < σ.length := by rw [st1.len, ← hlen]; exact hjl
          rw [hT]
          have h9 : ρ1[j]? = some (ρ1[j]'(by rw [← hlen]; exact hjl)) := List.getElem?_eq_getElem _
          rw [h9]
          obtain ⟨o9, k1, k2⟩ := st1.sl j _ h9
          cases hs9 : ρ1[j]'(by rw [← hlen]; exact hjl) with
          | un => exact ⟨_, List.getElem?_eq_getElem hσ, rfl⟩
          | own cs => exact ⟨_, List.getElem?_eq_getElem hσ, rfl⟩
          | dic l => exact ⟨_, List.getElem?_eq_getElem hσ, rfl⟩
          | dat d =>
            rw [hs9] at k2
            obtain ⟨_, v, rfl, rv⟩ := k2
            exact ⟨_, k1, rfl, v, rfl, rv.ex vis'⟩
        · rw [backE_off c] at hj
          obtain ⟨o', k1, k2⟩ := st'.sl j s (by rw [clearE_off c]; exact hj)
          rw [wipe_get c] at k1
          exact ⟨o', k1, k2⟩
      · have ex : x = D := by simpa using hx
        rw [ex]
        exact fun z => npF D z rfl
  · rw [if_neg hz] at hh; cases hh
/-! ### defs -/
def runP (n k : Nat) (X : XS) (ds : List PD) : Option PD := if ds.length = n then (X (ds.map Sl.dat ++ List.replicate k Sl.un)).bind fun o => match o with
  | .ret d _ => some d
  | .nxt _ => some .none
  | _ => none else none
def runW (n k : Nat) (X : XS) (cs : List Cel) (ds : List PD) : Option (PD × List Cel) := if ds.length = n then (X (.own cs :: (ds.map Sl.dat ++ List.replicate k Sl.un))).bind fun o => match o with
  | .ret d ρ => (ownAt ρ 0).bind fun cs' => some (d, cs')
  | .nxt ρ => (ownAt ρ 0).bind fun cs' => some (.none, cs')
  | _ => none else none
def runD (n k : Nat) (X : XS) (ds : List PD) : Option (List Cel) := if ds.length = n then (X (ds.map Sl.dat ++ List.replicate k Sl.un)).bind fun o => match o with
  | .retO cs _ => some cs
  | _ => none else none
/-- a def that gives a new list, owned -/
def spD (f : List PD → Option (List Cel)) : Sp := fun vs H Q _ => ∃ S ds cs, Al S H ∧ RpAll (hid S H) vs ds ∧ f ds = some cs ∧ ∀ v A H2, Ex H H2 → A.Nodup → (∀ x ∈ A, ¬ S x ∧ H x = none) → Own (hid (FL S A) H2) H2 v cs A → Q v H2
theorem sw_callD {f : List PD → Option (List Cel)} {ts : TA} {as : XWA} (hs : SWA ts as) : SWO (tCall (spD f) [] E0 ts) (fun ρ => (as ρ).bind fun x => (f x.1).bind fun cs => some (cs, x.2)) := fun pn F T H σ ρ cs ρ' st e Q q => by
  obtain ⟨⟨xs, ρ1⟩, h1, e⟩ := bind_some e
  obtain ⟨z, h3, e⟩ := bind_some e
  cases e
  refine hs pn F T H σ ρ xs _ st h1 _ fun vs T1 H1 st1 s1 rv => ⟨SF F T1, xs, cs, st1.als, by rw [List.append_nil]; exact rv, h3, fun v A H2 e2 nd off ow => ?_⟩
  have eq : SF (FL F A) T1 = FL (SF F T1) A := funext fun x => propext ⟨fun h => h.elim (fun h => h.elim (fun z => .inl (.inl z)) .inr) fun z => .inl (.inr z), fun h => h.elim (fun h => h.elim (fun z => .inl (.inl z)) .inr) fun z => .inl (.inr z)⟩
  have vis : Ex (hid (SF F T1) H1) (hid (SF (FL F A) T1) H2) := fun x o h => by
    obtain ⟨c, h⟩ := hid_some h
    rw [hid_out]
    · exact e2 x o h
    · rw [eq]
      rintro (z | z)
      · exact c z
      · rw [(off x z).2] at h; cases h
  have st2 := st1.ex e2
  refine q v A T1 H2 ⟨st2.len, fun x hx => hx.elim (st2.al x) (fun z => let ⟨ws, g⟩ := ow.lst x z; fun w => by rw [g] at w; cases w), fun i x hx z => z.elim (st1.off i x hx) fun z => (off x z).1 (.inr ⟨i, hx⟩), st2.dis, st2.nd, st2.out, fun i s hi => ?_, st2.pin⟩ nd (fun x hx z => (off x hx).1 (.inl z)) (fun x hx => ((Stp.ex (T := T1) st1.al e2).fr x hx).trans (s1.fr x hx)) (s1.vis.trans vis) (by rw [eq]; exact ow)
  obtain ⟨o, k1, k2⟩ := st1.sl i s hi
  refine ⟨o, k1, k2.mv vis fun x hx => ?_⟩
  obtain ⟨ws, g, _⟩ := st1.lst hx
  rw [g, e2 x _ g]
theorem st0 {S : Hs} {H : Hp} {N : List Str} {vs : List V} {ds : List PD} {n k : Nat} (al : Al S H) (ra : RpAll (hid S H) vs ds) (hn : ds.length = n) (hN : N.length = n + k) : StOk none S (fun _ => []) H (L2.start N vs) (ds.map Sl.dat ++ List.replicate k Sl.un) := by
  have e : N.length - vs.length = k := by rw [ra.length, hN, hn]; omega
  have eS : ∀ x, S x ↔ SF S (fun _ => []) x := fun x => ⟨.inl, fun h => h.elim id fun ⟨_, z⟩ => nomatch z⟩
  refine ⟨by unfold L2.start; rw [List.length_append, List.length_map, List.length_append, List.length_map, List.length_replicate, List.length_replicate, e, ra.length], al, fun i x h => (nomatch h), fun i j x h => (nomatch h), fun i => List.nodup_nil, fun i _ => rfl, fun i s hi => ?_, fun v z => nomatch z⟩
  unfold L2.start
  rw [e]
  by_cases c : i < ds.length
  · rw [List.getElem?_append_left (by rw [List.length_map]; exact c), List.getElem?_map, List.getElem?_eq_getElem c] at hi
    cases hi
    obtain ⟨v, h1, h2⟩ := ra.get (List.getElem?_eq_getElem c)
    refine ⟨some v, ?_, rfl, v, rfl, ?_⟩
    · rw [List.getElem?_append_left (by rw [List.length_map, ra.length]; exact c), List.getElem?_map, h1]
      rfl
    · rw [← hid_eq eS]; exact h2
  · rw [List.getElem?_append_right (by rw [List.length_map]; omega), List.getElem?_replicate] at hi
    rw [List.getElem?_append_right (by rw [List.length_map, ra.length]; omega), List.getElem?_replicate]
    rw [List.length_map] at hi ⊢
    rw [ra.length]
    split at hi
    · rename_i c2
      cases hi
      exact ⟨none, by rw [if_pos c2], rfl⟩
    · cases hi
theorem go_P {t : TS} {X : XS} {N : List Str} {vs : List V} {H : Hp} {Q : VK} {E : XK} {n k : Nat} (hX : SS t X) (hN : N.length = n + k) (hs : spF (runP n k X) vs H Q E) : t { nx := fun _ H' => Q .non H', rt := Q } (L2.start N vs) H := by
  obtain ⟨S, ds, d, al, ra, h, q⟩ := hs
  unfold runP at h
  by_cases hn : ds.length = n
  · rw [if_pos hn] at h
    obtain ⟨o, h1, h⟩ := bind_some h
    have eS : ∀ {T' : Trs} x, S x → SF S T' x := fun x => .inl
    have ex : ∀ {T' : Trs} {H' : Hp}, Stp S (fun _ => []) H T' H' → Ex H H' := fun {T' H'} s x o hx => by
      by_cases c : S x
      · rw [s.fr x c]; exact hx
      · exact hid_le _ _ (s.vis x o (by rw [hid_out (fun z => z.elim c fun ⟨_, z⟩ => nomatch z)]; exact hx))
    refine hX none S _ H _ _ o _ (st0 al ra hn hN) h1 ?_
    cases o with
    | ret d' ρ' => cases h; exact fun v σ T' H' st' s' rv => q v H' (ex s') (rv.ex (hid_sub fun x hx => .inl hx))
    | nxt ρ' => cases h; exact fun σ T' H' st' s' => q .non H' (ex s') .non
    | retO _ _ => cases h
    | brk _ => cases h
    | cnt _ => cases h
  · rw [if_neg hn] at h; cases h
theorem go_D {t : TS} {X : XS} {N : List Str} {vs : List V} {H : Hp} {Q : VK} {E : XK} {n k : Nat} (hX : SS t X) (hN : N.length = n + k) (hs : spD (runD n k X) vs H Q E) : t { nx := fun _ H' => Q .non H', rt := Q } (L2.start N vs) H := by
  obtain ⟨S, ds, d, al, ra, h, q⟩ := hs
  unfold runD at h
  by_cases hn : ds.length = n
  · rw [if_pos hn] at h
    obtain ⟨o, h1, h⟩ := bind_some h
    refine hX none S _ H _ _ o _ (st0 al ra hn hN) h1 ?_
    cases o with
    | retO d' ρ' =>
      cases h
      intro v A σ T' H' st' nd off fr vis ow
      have ex : Ex H H' := fun x o hx => by
        by_cases c : S x
        · rw [fr x c]; exact hx
        · exact hid_le _ _ (vis x o (by rw [hid_out (fun z => z.elim c fun ⟨_, z⟩ => nomatch z)]; exact hx))
      refine q v A H' ex nd (fun x hx => ⟨off x hx, ?_⟩) (ow.mv (hid_sub fun x hx => .inl hx) fun _ _ => rfl)
      cases qq : H x with
      | none => rfl
      | some o =>
        obtain ⟨c, _⟩ := hid_some (vis x o (by rw [hid_out (fun z => z.elim (off x hx) fun ⟨_, z⟩ => nomatch z)]; exact qq))
        exact absurd (.inl (.inr hx)) c
    | ret _ _ => cases h
    | nxt _ => cases h
    | brk _ => cases h
    | cnt _ => cases h
  · rw [if_neg hn] at h; cases h
theorem go_W {t : TS} {X : XS} {N : List Str} {vs : List V} {H : Hp} {Q : VK} {E : XK} {n k : Nat} (hX : SS t X) (hN : N.length = n + 1 + k) (hs : spW (runW n k X) vs H Q E) : t { nx := fun _ H' => Q .non H', rt := Q } (L2.start N vs) H := by
  obtain ⟨F, a, B, cs, ws, ds, d, cs', rfl, al, off, nd, ow, ra, h, q⟩ := hs
  unfold runW at h
  by_cases hn : ds.length = n
  · rw [if_pos hn] at h
    obtain ⟨o, h1, h⟩ := bind_some h
    obtain ⟨T, hT⟩ : ∃ T : Trs, T = fun i => if i = 0 then a :: B else [] := ⟨_, rfl⟩
    have T0 : T 0 = a :: B := by rw [hT]; rfl
    have TS : ∀ i, i ≠ 0 → T i = [] := fun i hi => by rw [hT]; exact if_neg hi
    have eqv : ∀ x, FL F (a :: B) x ↔ SF F T x := fun x => by
      constructor
      · rintro (z | z)
        · exact .inl z
        · exact .inr ⟨0, by rw [T0]; exact z⟩
      · rintro (z | ⟨i, z⟩)
        · exact .inl z
        · by_cases c : i = 0
          · subst c; rw [T0] at z; exact .inr z
          · rw [TS i c] at z; cases z
    have eh : hid (FL F (a :: B)) H = hid (SF F T) H := hid_eq eqv
    have e : N.length - (V.ref a :: ws).length = k := by rw [List.length_cons, ra.length, hN, hn]; omega
    have st : StOk (some (.ref a)) F T H (L2.start N (.ref a :: ws)) (.own cs :: (ds.map Sl.dat ++ List.replicate k Sl.un)) := by
      have mem : ∀ i x, x ∈ T i → i = 0 ∧ x ∈ a :: B := fun i x hx => by
        by_cases c : i = 0
        · subst c; rw [T0] at hx; exact ⟨rfl, hx⟩
        · rw [TS i c] at hx; cases hx
      refine ⟨?_, al, fun i x hx => off x (mem i x hx).2, fun i j x hx hy => (mem i x hx).1.trans (mem j x hy).1.symm, fun i => ?_, fun i hi => TS i (by rw [List.length_cons] at hi; omega), fun i s hi => ?_, fun v hv => ?_⟩
      · unfold L2.start
        rw [e]
        simp only [List.map_cons, List.cons_append, List.length_cons, List.length_append, List.length_map, List.length_replicate]
        rw [ra.length]
      · by_cases c : i = 0
        · subst c; rw [T0]; exact nd
        · rw [TS i c]; exact List.nodup_nil
      · unfold L2.start
        rw [e]
        cases i with
        | zero =>
          cases hi
          rw [T0]
          exact ⟨_, rfl, _, rfl, by rw [← eh]; exact ow⟩
        | succ i =>
          rw [TS _ (Nat.succ_ne_zero i)]
          have hi : (ds.map Sl.dat ++ List.replicate k Sl.un)[i]? = some s := hi
          show ∃ o, (ws.map some ++ List.replicate k none)[i]? = some o ∧ _
          by_cases c : i < ds.length
          · rw [List.getElem?_append_left (by rw [List.length_map]; exact c), List.getElem?_map, List.getElem?_eq_getElem c] at hi
            cases hi
            obtain ⟨v, k1, k2⟩ := ra.get (List.getElem?_eq_getElem c)
            refine ⟨some v, ?_, rfl, v, rfl, by rw [← eh]; exact k2⟩
            rw [List.getElem?_append_left (by rw [List.length_map, ra.length]; exact c), List.getElem?_map, k1]
            rfl
          · rw [List.getElem?_append_right (by rw [List.length_map]; omega), List.getElem?_replicate] at hi
            rw [List.getElem?_append_right (by rw [List.length_map, ra.length]; omega), List.getElem?_replicate]
            rw [List.length_map] at hi ⊢
            rw [ra.length]
            split at hi
            · rename_i c2
              cases hi
              exact ⟨none, by rw [if_pos c2], rfl⟩
            · cases hi
      · cases hv
        unfold L2.start
        rfl
    have fin : ∀ (v : V) (d1 : PD) (cs1 : List Cel) (σ : L2.St) (ρ1 : Env) (T' : Trs) (H' : Hp), StOk (some (.ref a)) F T' H' σ ρ1 → Stp F T H T' H' → Rp (hid (SF F T') H') v d1 → ownAt ρ1 0 = some cs1 → (d1, cs1) = (d, cs') → Q v H' := by
      intro v d1 cs1 σ ρ1 T' H' st' s' rv ho e2
      cases e2
      obtain ⟨a', us, B', h1, h2, h3, h4⟩ := st'.at_own (ownAt_eq ho)
      have hp := st'.pin _ rfl
      have ea : a' = a := by rw [h1] at hp; cases hp; rfl
      subst ea
      have sub : Ex (hid (SF F T') H') (hid (FL F (a' :: B')) H') := hid_sub fun x hx => hx.elim .inl fun z => .inr ⟨0, by rw [h4]; exact z⟩
      refine q v B' H' s'.fr (by rw [eh]; exact s'.vis.trans sub) (fun x hx => st'.off 0 x (by rw [h4]; exact hx)) (by rw [← h4]; exact st'.nd 0) ⟨a', us, B', rfl, h2, h3.mv sub fun _ _ => rfl, rfl⟩ (rv.ex sub)
    refine hX (some (.ref a)) F T H _ _ o _ st h1 ?_
    cases o with
    | ret d' ρ' =>
      obtain ⟨c1, k1, k2⟩ := bind_some h
      exact fun v σ T' H' st' s' rv => fin v d' c1 σ ρ' T' H' st' s' rv k1 (Option.some.inj k2)
    | nxt ρ' =>
      obtain ⟨c1, k1, k2⟩ := bind_some h
      exact fun σ T' H' st' s' => fin .non .none c1 σ ρ' T' H' st' s' .non k1 (Option.some.inj k2)
    | retO _ _ => cases h
    | brk _ => cases h
    | cnt _ => cases h
  · rw [if_neg hn] at h; cases h
/-! how many arguments -/
theorem len_F {n k : Nat} {X : XS} {vs : List V} {H : Hp} {Q : VK} {E : XK} (h : spF (runP n k X) vs H Q E) : vs.length = n := by
  obtain ⟨S, ds, d, _, ra, h, _⟩ := h
  unfold runP at h
  by_cases hn : ds.length = n
  · rw [ra.length]; exact hn
  · rw [if_neg hn] at h; cases h
theorem len_D {n k : Nat} {X : XS} {vs : List V} {H : Hp} {Q : VK} {E : XK} (h : spD (runD n k X) vs H Q E) : vs.length = n := by
  obtain ⟨S, ds, d, _, ra, h, _⟩ := h
  unfold runD at h
  by_cases hn : ds.length = n
  · rw [ra.length]; exact hn
  · rw [if_neg hn] at h; cases h
theorem len_W {n k : Nat} {X : XS} {vs : List V} {H : Hp} {Q : VK} {E : XK} (h : spW (runW n k X) vs H Q E) : vs.length = n + 1 := by
  obtain ⟨F, a, B, cs, ws, ds, d, cs', rfl, _, _, _, _, ra, h, _⟩ := h
  unfold runW at h
  by_cases hn : ds.length = n
  · rw [List.length_cons, ra.length, hn]
  · rw [if_neg hn] at h; cases h
end Uv

namespace Uv
open PySem PySem.Spec PyProof.Rows L2
open Evl (Ex)
/-! ### defs, called where nothing is under way (so repr tells all) -/
section
variable {P : Program} {w : World} {K : PySem.W.Frag} {mg : Str → Option Value} {base : Heap}
structure FnG (P : Program) (w : World) (K : PySem.W.Frag) (mg : Str → Option Value) (base : Heap) (k : Nat) (f : Addr) (fd : FuncData) (ps : List Str) (sp : Sp) : Prop where
  len : ∀ vs H Q E, sp vs H Q E → vs.length = ps.length
  run : ∀ (A : Around) (outer : List PySem.Env) (s : Shared) (H : Hp) (args : Args) (us : List Value) (vs : List V) (Q : VK) (E : XK), A.guards = some [] → Room k A → Env0 P w K mg base A outer s H → BindsTo s fd args (ps.zip us) → Vals vs us → sp vs H Q E →
    codeAny (model P w) A (.call (.ref f) args) (CR CX0 outer P w H s Q E) s
structure CalG (P : Program) (w : World) (K : PySem.W.Frag) (mg : Str → Option Value) (base : Heap) (k : Nat) (x : Str) (sp : Sp) : Prop where
  ex : ∃ (f : Addr) (fd : FuncData) (ps : List Str), FnG P w K mg base k f fd ps sp ∧ mg x = some (.ref f) ∧ PySem.W.keepIn K (.ref f) = true ∧ Binds K fd ps []
structure Dfn (K : PySem.W.Frag) (mg : Str → Option Value) (x : Str) (st : Stmt) (ps : List Str) : Prop where
  ex : ∃ f fd, Fun K x x st f fd ∧ mg x = some (.ref f) ∧ Binds K fd ps []
theorem dfn_mk {h : Heap} {x : Str} {st : Stmt} {ps : List Str} {f : Addr} {od an : Option Addr} {sl : Array (Option Value)} {oc kV dc pm cd ct : Value} (X : K.In h) (G : h.Ns mainGlobals mg)
    (a1 : PySem.W.nsIn K mainGlobals x = some (some (.ref f))) (l1 : K.lookup f = some ⟨oc, od, .func (PySem.W.fnOf x x (defArgs st) (defBody st) (defScope st) .none kV dc pm an cd ct), sl⟩) (c1 : PySem.W.codeIn K cd x = true) (k1 : PySem.W.keepIn K (.ref f) = true)
    (hb : ∀ (kV doc pm : Value) (an : Option Addr) (cdv ct : Value) (us : List Value), us.length = ps.length → bindArgs (PySem.W.fnOf x x (defArgs st) (defBody st) (defScope st) .none kV doc pm an cdv ct) ⟨us, []⟩ = pure (ps.zip us)) : Dfn K mg x st ps := by
  have F := fun_mk (st := st) l1 c1 k1
  exact ⟨f, _, F, PySem.W.mg_of X G a1, F.binds hb⟩
/-- a call by its name -/
theorem pe_g {X : Cx} {j k : Nat} {x : Str} {sp : Sp} {p pos : Pos} {e : Expr} {es : List Expr} {t : TA} (c : CalG X.prog X.w X.K X.mg X.base k x sp) (hr : Room j X.A) (hk : k ≤ j) (hG : X.A.guards = some []) (hg : Gl X x) (ha : PA X (e :: es) t)
    (hdb : (x == ("__debug__" : Str)) = false := by decide) (he : starEach (e :: es) X.env = (false, eval e X.env) :: starEach es X.env := by rfl) (hpl : (backTo pos (starEach es X.env)).any (·.1) = false := by rfl) :
    PE X (.Call (.Name x p) (e :: es) [] pos) (tCall sp [] E0 t) := by
  obtain ⟨f, fd, ps, F, hm, kp, b⟩ := c.ex
  refine ⟨fun pins s σ H Q I h => wpAny_Call_Name_kw (ld_glob I hg hm ?_ hdb)⟩
  refine PySem.W.callWith_K (h₀ := X.base) I.ok.mod.kin kp (thn (ha.run pos pins s σ H _ I h) fun us s1 hh => ?_) he hpl
  obtain ⟨vs, H1, I1, r, q⟩ := hh
  rw [List.append_nil] at q
  have hl : us.length = ps.length := by rw [← r.length]; exact F.len _ _ _ _ q
  have bd := b s1 us I1.kIn (by rw [List.append_nil]; exact hl)
  rw [List.append_nil] at bd
  refine ⟨I1.kIn, wpAny_call (codeAny_mono (F.run X.A X.stack s1 H1 ⟨us, []⟩ us vs Q E0 hG (hr.mono hk) I1.env0 bd r q) fun rr s' hq => ?_)⟩
  match rr, hq with
  | .error _, hq => exact hq.elim
  | .ok (.ret u), hq => exact I1.after hq
  | .ok .next, hq => exact hq.elim
  | .ok .brk, hq => exact hq.elim
  | .ok .cont, hq => exact hq.elim
/-- a def by its body -/
theorem fn_g {x : Str} {st : Stmt} {f : Addr} {fd : FuncData} {N ps : List Str} {k : Nat} {sp : Sp} (F : Fun K x x st f fd) (S : FnScope N ps (defScope st)) (len : ∀ vs H Q E, sp vs H Q E → vs.length = ps.length)
    (hb : ∀ (cdv : Value) (A : Around) (outer : List PySem.Env) (s : Shared) (H : Hp) (E : XK), (A.deeper (envOfC x (defScope st) s.heap.objs.size f cdv)).guards = some [] → Room k (A.deeper (envOfC x (defScope st) s.heap.objs.size f cdv)) →
      ∃ t, PSs (cxOf CX0 P w K mg base N x (defScope st) f cdv A outer s H E).nox (defBody st) t ∧ ∀ vs Q, sp vs H Q E → t { nx := fun _ H' => Q .non H', rt := Q } (L2.start N vs) H) : FnG P w K mg base (k + 1) f fd ps sp := by
  obtain ⟨oc, od, kV, doc, pm, an, cdv, ct, osl, rfl, lk, hcd⟩ := F.ex
  refine ⟨len, fun A outer s H args us vs Q E hG hr e0 hbd r hsp => ?_⟩
  obtain ⟨t, ht, hq⟩ := hb cdv A outer s H E hG (hr.deeper _)
  have keep : ∀ b o, base.get? b = some o → s.heap.get? b = some o := fun b o e => (e0.bs b o e).1
  have KX : K.In s.heap := e0.mod.kin.keeps keep
  have lim : s.heap.NoLimit := e0.mod.nolimit.keeps keep
  refine codeAny_call_function hr.depth (KX _ _ lk) rfl S.co S.gen rfl (PySem.W.codeRec_of KX hcd) (hbd _ _ _ _ ?_)
  refine wpAny_newFunctionEnv_cells S.kind (fun y hy => ?_) fun env he s1 ic => ?_
  · rcases S.par y.1 (List.of_mem_zip hy).1 with q | q
    · exact .inl q
    · exact .inr ⟨q, PySem.W.cellsFrom_some _ _ _ (.inl q)⟩
  · subst he
    have I : Inv (cxOf CX0 P w K mg base N x (defScope st) f cdv A outer s H E) [] (L2.start N vs) H s1 := inv_start S hr.hd e0 (len _ _ _ _ hsp) r ic
    refine ⟨lim.keeps ic.toInCall.keep, codeAny_func (wpAny_mono (ht.nox.run [] s1 (L2.start N vs) H _ I (hq vs Q hsp)) (fun fl s' hs => ?_) fun e s' hs => hs)⟩
    match fl, hs with
    | .ret u, ⟨v, σ', H', J, rv, q⟩ => exact ⟨v, H', J.os, J.bare, J.base, J.hok, rv, q⟩
    | .next, ⟨σ', H', J, q⟩ => exact ⟨.non, H', J.os, J.bare, J.base, J.hok, rfl, q⟩
    | .brk, ⟨_, _, _, q⟩ => exact q.elim
    | .cont, ⟨_, _, _, q⟩ => exact q.elim
theorem cal_g {x : Str} {st : Stmt} {N ps : List Str} {k : Nat} {sp : Sp} (F : Dfn K mg x st ps) (S : FnScope N ps (defScope st)) (len : ∀ vs H Q E, sp vs H Q E → vs.length = ps.length)
    (hb : ∀ (f : Addr) (cdv : Value) (A : Around) (outer : List PySem.Env) (s : Shared) (H : Hp) (E : XK), (A.deeper (envOfC x (defScope st) s.heap.objs.size f cdv)).guards = some [] → Room k (A.deeper (envOfC x (defScope st) s.heap.objs.size f cdv)) →
      ∃ t, PSs (cxOf CX0 P w K mg base N x (defScope st) f cdv A outer s H E).nox (defBody st) t ∧ ∀ vs Q, sp vs H Q E → t { nx := fun _ H' => Q .non H', rt := Q } (L2.start N vs) H) : CalG P w K mg base (k + 1) x sp := by
  obtain ⟨f, fd, F, hm, b⟩ := F.ex
  exact ⟨f, fd, ps, fn_g F S len (hb f), hm, F.kp, b⟩
end
/-! ### the end -/
/-- the heap behind the top as the layer sees it: the script alone may be tracked, and it is frozen -/
def scriptH (K : PySem.W.Frag) (a : Addr) (vs : List Value) (ns : List Int) : Hp := fun b => if b = a ∧ K.lookup a = none then some (.frz { cls := .type "list", data := .seq vs.toArray } (.lst (ns.map V.int))) else none
theorem scriptH_some {K : PySem.W.Frag} {a b : Addr} {vs : List Value} {ns : List Int} {o : HO} (h : scriptH K a vs ns b = some o) : b = a ∧ K.lookup a = none ∧ o = .frz { cls := .type "list", data := .seq vs.toArray } (.lst (ns.map V.int)) := by
  unfold scriptH at h
  by_cases c : b = a ∧ K.lookup a = none
  · rw [if_pos c] at h
    exact ⟨c.1, c.2, (Option.some.inj h).symm⟩
  · rw [if_neg c] at h
    cases h
theorem none_by {K : PySem.W.Frag} {a b : Addr} {vs : List Value} {ns : List Int} (h : b = a → K.lookup a = none → False) : scriptH K a vs ns b = none := by
  cases q : scriptH K a vs ns b with
  | none => rfl
  | some o =>
    obtain ⟨e1, e2, _⟩ := scriptH_some q
    exact (h e1 e2).elim
theorem top_call {P : Program} {w : World} {K : PySem.W.Frag} {mg mb : Str → Option Value} {k : Nat} {fa a : Addr} {fd : FuncData} {x : Str} {sp : Sp} {s₁ : Shared} {vs : List Value} {ns : List Int}
    (KX : K.In s₁.heap) (hns : s₁.heap.Ns mainGlobals mg) (hb : s₁.heap.Ns builtinsNs mb) (hbb : ∀ x : Str, x ≠ "__name__" → mb x = bootBuiltins x) (hlim : s₁.heap.NoLimit) (hg : s₁.gens = #[])
    (ha : s₁.heap.get? a = some { cls := .type "list", data := .seq vs.toArray }) (hi : IntsAre vs ns) (hl : ns.length ≤ sizeLine) (hr : Room k callerA)
    (F : ∀ base : Heap, K.In base → base.Ns mainGlobals mg → FnG P w K mg base k fa fd [x] sp) (hbind : ∀ (s : Shared) (u : Value), BindsTo s fd ⟨[u], []⟩ [(x, u)])
    (hsp : ∀ H : Hp, SqL K H a (ns.map V.int) → sp [.ref a] H (fun v _ => v = .bl true) fun _ _ _ => False) :
    codeAny (model P w) callerA (.call (.ref fa) ⟨[.ref a], []⟩) (fun r s' => r = .ok (.ret (.bool true)) ∧ OldK s₁.heap s'.heap ∧ s'.os = s₁.os ∧ AllBare s'.gens) s₁ := by
  have rv := vals_ints hi
  have hs : SqL K (scriptH K a vs ns) a (ns.map V.int) := by
    cases hk : K.lookup a with
    | none => exact .inl (.inr ⟨_, if_pos ⟨rfl, hk⟩⟩)
    | some o =>
      have e := KX a o hk
      rw [ha] at e
      cases e
      exact .inr ⟨_, vs.toArray, _, hk, rfl, rfl, rfl, by rw [List.size_toArray, hi.length]; exact hl, by simpa using rv⟩
  have hok : HOk P w (scriptH K a vs ns) s₁.heap := fun b o h => by
    obtain ⟨rfl, _, rfl⟩ := scriptH_some h
    exact ⟨ha, by rw [List.length_map]; exact hl, vs, _, rv, ha⟩
  have old : ∀ {b : Addr} {o : Obj}, s₁.heap.get? b = some o → scriptH K a vs ns b = none → (hidT s₁.heap (scriptH K a vs ns)).get? b = some o := fun e n => hidT_get e n
  have nsK : ∀ {b : Addr} {m : Str → Option Value}, s₁.heap.Ns b m → (hidT s₁.heap (scriptH K a vs ns)).Ns b m := fun {b m} ⟨o, es, ep, e, d, r⟩ => ⟨o, es, ep, old e (none_by fun z _ => by
    subst z
    rw [ha] at e
    cases e
    exact nomatch (show Data.seq vs.toArray _ = Data.dict es ep from d)), d, r⟩
  have kin : K.In (hidT s₁.heap (scriptH K a vs ns)) := fun b o e => old (KX b o e) (none_by fun z q => by
    subst z
    rw [q] at e
    cases e)
  have mod : Mod K mg (hidT s₁.heap (scriptH K a vs ns)) := ⟨kin, nsK hns, ⟨mb, nsK hb, hbb⟩, let ⟨mc, h1, h2⟩ := hlim; ⟨mc, nsK h1, h2⟩⟩
  have e0 : Env0 P w K mg (hidT s₁.heap (scriptH K a vs ns)) callerA [] s₁ (scriptH K a vs ns) := ⟨rfl, mod, fun b o e => of_hidT e, Nat.le_of_eq (hidT_size _ _), trivial, fun b hb => absurd (show b ∈ ([] : List Addr) from hb) (by simp), hok, .of_eq hg⟩
  refine codeAny_mono ((F _ kin (nsK hns)).run callerA [] s₁ _ ⟨[.ref a], []⟩ [.ref a] [.ref a] _ _ rfl hr e0 (hbind s₁ (.ref a)) (.cons rfl .nil) (hsp _ hs)) fun r s' h => ?_
  match r, h with
  | .error e, h => exact h.elim
  | .ok .next, h => exact h.elim
  | .ok .brk, h => exact h.elim
  | .ok .cont, h => exact h.elim
  | .ok (.ret u), ⟨v, H', os, bare, un, hok', r', q⟩ =>
    have q' : v = .bl true := q
    subst q'
    obtain rfl : u = Value.bool true := r'
    refine ⟨rfl, OldK.of_keep fun b o e => ?_, os, bare⟩
    cases q : scriptH K a vs ns b with
    | none => exact un.keep b o e q (fun z => absurd (show b ∈ ([] : List Addr) from z) (by simp)) (by simp)
    | some u =>
      obtain ⟨rfl, _, rfl⟩ := scriptH_some q
      obtain ⟨e1, _⟩ := hok b _ q
      obtain ⟨e2, _⟩ := hok' b _ (un.frzs b _ _ q)
      rw [e] at e1
      cases e1
      exact e2
/-- the row from the law as a function of the script -/
theorem walk_v {l : PySem.W.OpenLaw} {n k : Nat} {q : Program} {loose : List Str} {XP : (Str → Option Value) → Heap → Prop} {YP : World → Heap → Prop} {d : DefRec} {K : Params → PySem.W.Frag} {f : List PD → Option PD} {x : Str}
    (hn : l.most = some n) (hn2 : n ≤ sizeLine) (hdf : d.params.defaults = []) (hr : Room k callerA) (hY : ∀ (w : World) (h : Heap), YP w h → (K w.params).In h)
    (F : ∀ (w : World) (mg : Str → Option Value) (fa : Addr) (h : Heap), (K w.params).In h → h.Ns mainGlobals mg → mg d.name = some (.ref fa) →
      ∃ fd : FuncData, (∀ (s : Shared) (u : Value), BindsTo s fd ⟨[u], []⟩ [(x, u)]) ∧ ∀ base : Heap, (K w.params).In base → base.Ns mainGlobals mg → FnG l.prog w (K w.params) mg base k fa fd [x] (@spF ⟨K w.params⟩ f))
    (hf : ∀ ns : List Int, ns.length ≤ n → f [scrD (ns.map PyData.int)] = some (.bool true)) :
    PySem.W.WalkO q loose XP YP l.row.toRowW d [] (fun f vs => PySem.call f vs) := by
  refine Att.attach_call hn hdf fun w s₀ s₁ mg mb fa o pm cd doc a vs ns G Y ho hd hcd hmg hobj hints hlen hg => ?_
  obtain ⟨fd, hb, hF⟩ := F w mg fa _ (hY w _ Y) G.T.g hmg
  refine top_call (hY w _ Y) G.T.g G.T.b G.T.builtins G.T.nolimit hg hobj hints (Nat.le_trans hlen hn2) hr hF hb fun H hS => ?_
  letI : KK := ⟨K w.params⟩
  have e : ∀ x, ¬ (fun _ : Addr => False) x := fun x z => z
  have eh : hid (fun _ => False) H = H := funext fun x => hid_out (e x)
  refine ⟨fun _ => False, [scrD (ns.map PyData.int)], .bool true, fun x z => z.elim, .cons (.scr (xs := ns.map V.int) (by rw [eh]; exact hS) (RpAll.ofInts ns)) .nil, hf ns hlen, fun v H2 _ rv => ?_⟩
  cases rv
  rfl
end Uv

namespace Uv
open PySem PySem.Spec PyProof.Rows L2
open Evl (Ex)
variable [kk : KK]
def wCallD (f : List PD → Option (List Cel)) (as : XWA) : XWO := fun ρ => (as ρ).bind fun x => (f x.1).bind fun cs => some (cs, x.2)
/-! ### x[k].append(e), e drawn: the list within is kept aside meanwhile -/
def sAppS (i : Nat) (k : XE) (a : XW) : XS := fun ρ => (ownAt ρ i).bind fun cs => ((k (vw ρ)).bind isI).bind fun kk => (ixN cs.length kk).bind fun n => (subAt cs n).bind fun ds => (a (ρ.set i .un)).bind fun x =>
  match x.2[i]? with
  | some .un => if ds.length < 100000 then some (.nxt (x.2.set i (.own (cs.set n (.sub (ds ++ [x.1])))))) else none
  | _ => none
theorem StOk.protect {pn : Option V} {F : Hs} {T : Trs} {H : Hp} {σ : L2.St} {ρ : Env} (st : StOk pn F T H σ ρ) {i : Nat} (hi : i < ρ.length) : StOk pn (FL F (T i)) (setT T i []) H σ (ρ.set i .un) ∧ SF (FL F (T i)) (setT T i []) = SF F T := by
  have eS : SF (FL F (T i)) (setT T i []) = SF F T := funext fun x => propext ⟨fun h => by
      rcases h with (h | h) | ⟨j, h⟩
      · exact .inl h
      · exact .inr ⟨i, h⟩
      · by_cases c : j = i
        · subst c; rw [setT_same] at h; cases h
        · rw [setT_ne c] at h; exact .inr ⟨j, h⟩, fun h => by
      rcases h with h | ⟨j, h⟩
      · exact .inl (.inl h)
      · by_cases c : j = i
        · subst c; exact .inl (.inr h)
        · exact .inr ⟨j, by rw [setT_ne c]; exact h⟩⟩
  have mem : ∀ j x, x ∈ setT T i [] j → x ∈ T j ∧ j ≠ i := fun j x h => by
    by_cases c : j = i
    · subst c; rw [setT_same] at h; cases h
    · rw [setT_ne c] at h; exact ⟨h, c⟩
  refine ⟨⟨by rw [List.length_set]; exact st.len, fun x h => h.elim (st.al x) fun z => st.als x (.inr ⟨i, z⟩), fun j x h z => ?_, fun j k x h h' => st.dis j k x (mem j x h).1 (mem k x h').1, fun j => ?_, fun j hj => ?_, fun j q hq => ?_, st.pin⟩, eS⟩
  · obtain ⟨h1, h2⟩ := mem j x h
    exact z.elim (st.off j x h1) fun z => h2 (st.dis j i x h1 z)
  · by_cases c : j = i
    · subst c; rw [setT_same]; exact List.nodup_nil
    · rw [setT_ne c]; exact st.nd j
  · rw [List.length_set] at hj
    rw [setT_ne (by omega)]
    exact st.out j hj
  · by_cases c : i = j
    · subst c
      rw [List.getElem?_set_self hi] at hq
      cases hq
      rw [setT_same]
      exact ⟨_, List.getElem?_eq_getElem (by rw [st.len]; exact hi), rfl⟩
    · rw [List.getElem?_set_ne c] at hq
      rw [setT_ne (fun z => c z.symm), eS]
      exact st.sl j q hq
theorem ss_appS {i : Nat} {tk te : TE} {k : XE} {a : XW} (hi0 : i ≠ 0) (hk : SE tk k) (h : SW te a) : SS (tDrop (tBM K "list" rAppend (tOp (rIx K) (tVar i) tk) (tCons te tNil))) (sAppS i k a) := fun pn F T H σ ρ o D st e q => by
  obtain ⟨cs, h2, e⟩ := bind_some e
  obtain ⟨kk', h3, e⟩ := bind_some e
  obtain ⟨dk, h3, h4⟩ := bind_some h3
  obtain ⟨n, hn, e⟩ := bind_some e
  obtain ⟨ds, hd, e⟩ := bind_some e
  obtain ⟨⟨d, ρ1⟩, h5, e⟩ := bind_some e
  have ed : dk = _ := isI_eq h4
  subst ed
  have hu : ρ1[i]? = some .un ∧ ds.length < 100000 ∧ o = .nxt (ρ1.set i (.own (cs.set n (.sub (ds ++ [d]))))) := by
    revert e
    show (match ρ1[i]? with | some .un => if ds.length < 100000 then some (Out.nxt (ρ1.set i (.own (cs.set n (.sub (ds ++ [d])))))) else none | _ => none) = some o → _
    cases hq : ρ1[i]? with
    | none => intro e; cases e
    | some s =>
      cases s with
      | un =>
        intro e
        by_cases c : ds.length < 100000
        · have e : (if ds.length < 100000 then some (Out.nxt (ρ1.set i (.own (cs.set n (.sub (ds ++ [d])))))) else none) = some o := e
          rw [if_pos c] at e
          cases e
          exact ⟨rfl, c, rfl⟩
        · have e : (if ds.length < 100000 then some (Out.nxt (ρ1.set i (.own (cs.set n (.sub (ds ++ [d])))))) else none) = some o := e
          rw [if_neg c] at e
          cases e
      | dat _ => intro e; cases e
      | own _ => intro e; cases e
      | dic _ => intro e; cases e
  obtain ⟨hu1, hu2, rfl⟩ := hu
  have hi := ownAt_eq h2
  have il : i < ρ.length := (List.getElem?_eq_some_iff.mp hi).1
  refine ix_sub st hi hn (subAt_eq hd) hk h3 fun b H2 e2 hb => ?_
  have st2 := st.ex e2
  have s2 : Stp F T H T H2 := Stp.ex st.al e2
  obtain ⟨a9, vs9, k1, k2, k3⟩ := hb
  obtain ⟨a', vs', B, g1, g2, g3, g4⟩ := st2.at_own hi
  have ea : a' = a9 := by rw [k1] at g1; cases g1; rfl
  subst ea
  have ev : vs' = vs9 := by rw [k2] at g2; cases g2; rfl
  subst ev
  have nd := st2.nd i
  obtain ⟨st3, eS⟩ := st2.protect il
  obtain ⟨b', ws, _, _, q3, q4, q5, q6, q7, q8, _⟩ := st2.writeSub (ds' := ds) hi (subAt_eq hd)
  refine ⟨.inl ⟨rfl, ?_⟩, h pn _ _ H2 σ _ d ρ1 st3 h5 _ fun v T4 H4 st4 s4 rv => ?_⟩
  · obtain ⟨a8, vs8, b8, ws8, u1, u2, u3, u4, u5, u6, _⟩ := st2.writeSub (ds' := ds) hi (subAt_eq hd)
    have ea : a8 = a' := by rw [k1] at u1; cases u1; rfl
    subst ea
    have ev : vs8 = vs' := by rw [k2] at u2; cases u2; rfl
    subst ev
    have eb : b8 = b := by rw [k3] at u3; cases u3; rfl
    subst eb
    exact ⟨ws8, .inl (.inl u5)⟩
  · -- the slot again
    have hT : T i = a' :: B := g4
    have ow : Own (hid (SF F T) H2) H2 (.ref a') cs (T i) := ⟨a', vs', B, rfl, k2, g3, hT⟩
    have vis4 := s4.vis
    rw [eS] at vis4
    have ow4 : Own (hid (SF (FL F (T i)) T4) H4) H4 (.ref a') cs (T i) := ow.mv vis4 fun x hx => s4.fr x (.inr hx)
    have il4 : i < ρ1.length := (List.getElem?_eq_some_iff.mp hu1).1
    obtain ⟨st5, vis5⟩ := st4.own (i := i) hi0 il4 ow4 nd (fun x hx => st2.off i x hx)
    have eσ : σ.set i (some (.ref a')) = σ := by
      apply List.ext_getElem?
      intro j
      by_cases c : i = j
      · subst c
        rw [List.getElem?_set_self (by rw [st.len]; exact il)]
        exact k1.symm
      · rw [List.getElem?_set_ne c]
    rw [eσ] at st5
    have hi5 : (ρ1.set i (.own cs))[i]? = some (.own cs) := List.getElem?_set_self il4
    obtain ⟨a8, vs8, b8, ws8, u1, u2, u3, u4, u5, u6, f⟩ := st5.writeSub (ds' := ds) hi5 (subAt_eq hd)
    have ea : a8 = a' := by rw [k1] at u1; cases u1; rfl
    subst ea
    have fr4 : H4 a8 = H2 a8 := s4.fr a8 (.inr (by rw [hT]; exact List.mem_cons_self ..))
    have ev : vs8 = vs' := by rw [fr4, k2] at u2; cases u2; rfl
    subst ev
    have eb : b8 = b := by rw [k3] at u3; cases u3; rfl
    subst eb
    have rv5 := rv.ex vis5
    obtain ⟨st6, s6⟩ := f (ws8 ++ [v]) (ds ++ [d]) (u6.append (.cons rv5 .nil))
    rw [List.set_set] at st6
    refine ⟨b8, ws8, v, rfl, rfl, u5, by rw [u6.length]; exact Evl.sz_lt hu2, q σ _ _ st6 ?_⟩
    refine (s2.trans ⟨fun x hx => s4.fr x (.inl hx), vis4.trans vis5⟩).trans s6
/-! ### sorted -/
def insI (x : Int) : List Int → List Int
  | [] => [x]
  | y :: ys => if x ≤ y then x :: y :: ys else y :: insI x ys
def sortI : List Int → List Int
  | [] => []
  | x :: xs => insI x (sortI xs)
theorem insI_perm (x : Int) : ∀ ys : List Int, (insI x ys).Perm (x :: ys)
  | [] => .refl _
  | y :: ys => by
    unfold insI
    by_cases c : x ≤ y
    · rw [if_pos c]
    · rw [if_neg c]
      exact ((insI_perm x ys).cons y).trans (.swap x y ys)
theorem sortI_perm : ∀ xs : List Int, (sortI xs).Perm xs
  | [] => .refl _
  | x :: xs => (insI_perm x _).trans ((sortI_perm xs).cons x)
theorem insI_sorted (x : Int) : ∀ {ys : List Int}, ys.Pairwise (· ≤ ·) → (insI x ys).Pairwise (· ≤ ·)
  | [], _ => by simp [insI]
  | y :: ys, h => by
    unfold insI
    obtain ⟨h1, h2⟩ := List.pairwise_cons.mp h
    by_cases c : x ≤ y
    · rw [if_pos c]
      refine List.pairwise_cons.mpr ⟨fun z hz => ?_, h⟩
      rcases List.mem_cons.mp hz with e | e
      · rw [e]; exact c
      · exact Int.le_trans c (h1 z e)
    · rw [if_neg c]
      refine List.pairwise_cons.mpr ⟨fun z hz => ?_, insI_sorted x h2⟩
      rcases List.mem_cons.mp ((insI_perm x ys).mem_iff.mp hz) with e | e
      · rw [e]; omega
      · exact h1 z e
theorem sortI_sorted : ∀ xs : List Int, (sortI xs).Pairwise (· ≤ ·)
  | [] => .nil
  | x :: xs => insI_sorted x (sortI_sorted xs)
theorem sorted_eq : ∀ {xs ys : List Int}, xs.Perm ys → xs.Pairwise (· ≤ ·) → ys.Pairwise (· ≤ ·) → xs = ys
  | [], ys, p, _, _ => (List.perm_nil.mp p.symm).symm ▸ rfl
  | x :: xs, [], p, _, _ => absurd (List.perm_nil.mp p) (by simp)
  | x :: xs, y :: ys, p, h, h' => by
    obtain ⟨h1, h2⟩ := List.pairwise_cons.mp h
    obtain ⟨h3, h4⟩ := List.pairwise_cons.mp h'
    have e : x = y := by
      have a1 : x ∈ y :: ys := p.mem_iff.mp (List.mem_cons_self ..)
      have a2 : y ∈ x :: xs := p.mem_iff.mpr (List.mem_cons_self ..)
      rcases List.mem_cons.mp a1 with e | e
      · exact e
      · rcases List.mem_cons.mp a2 with f | f
        · exact f.symm
        · exact Int.le_antisymm (h1 y f) (h3 x e)
    subst e
    rw [sorted_eq p.cons_inv h2 h4]
end Uv

namespace Uv
open PySem PySem.Spec PyProof.Rows L2 Srt SrtO
open Evl (Ex)
section
variable {prog : Program} {w : World} {A : Around} {E : Value → Shared → Prop} {s : Shared}
/-- a tuple's items, collected -/
theorem collectT {l : Addr} {vs : List Value} {Q : List Value → Shared → Prop} (tp : s.heap.IsTuple l vs.toArray) (sz : vs.length ≤ sizeLine)
    (k : Q vs { s with heap := (s.heap.push (seqObj "list" #[] 0)).update s.heap.objs.size (Obj.mapSeq (· ++ vs.toArray)) }) : wpAny (model prog w) A (collect (.ref l)) Q E s := by
  obtain ⟨ob, g, c, m, dt⟩ := tp
  have g2 : (s.heap.push (seqObj "list" #[] 0)).get? l = some ob := Heap.get?_push_of_some _ g
  have lo : (s.heap.push (seqObj "list" #[] 0)).get? s.heap.objs.size = some (seqObj "list" #[] 0) := Heap.get?_push_size _ rfl
  unfold collect; refine wpAny_bind (wpAny_runValue (codeAny_builtin entry_proto_collect' ?_))
  show wpAny _ _ (do again (.builtin "list.__iadd__" ⟨[← newList [], .ref l], []⟩)) _ _ s
  refine wpAny_bind (wpAny_newList (wpAny_pure ⟨Code.quiet_builtin _ (by decide +kernel), codeAny_builtin entry_list_iadd' ?_⟩))
  show wpAny _ _ (Builtin.List.listExtendWith (.ref s.heap.objs.size) (.ref l) (.ref s.heap.objs.size)) _ _ { s with heap := s.heap.push (seqObj "list" #[] 0) }
  unfold Builtin.List.listExtendWith; refine wpAny_bind (wpAny_typeOf (T := "tuple") ⟨ob, g2, c⟩ ?_)
  have tt : (Value.type "tuple" == Value.type "tuple") = true := by rfl
  rw [if_pos (by rw [tt, Bool.or_true])]
  refine wpAny_bind (listItems_at g2 dt (wpAny_bind (listItems_at lo rfl ?_)))
  rw [if_neg (by simp)]
  refine wpAny_bind (listUpdate_at lo rfl (wpAny_pure ?_) (Nat.zero_le _) (by show (#[] ++ vs.toArray).size ≤ sizeLine + 1; simp; omega))
  refine wpAny_bind (wpAny_load (get?_update_seq lo _) ?_)
  show wpAny _ _ (pure ((#[] : Array Value) ++ vs.toArray).toList) Q E _
  have z : ((#[] : Array Value) ++ vs.toArray).toList = vs := by simp
  rw [z]; exact wpAny_pure k
/-- sorted(t), t a tuple: the new list at size + 1 -/
theorem sortT {l : Addr} {vs : List Value} {lt : Value → Value → Bool} {Q : Value → Shared → Prop} (O : Swo lt) (tp : s.heap.IsTuple l vs.toArray) (sz : vs.length ≤ sizeLine)
    (ord : 2 ≤ vs.length → ∀ (h₁ : Heap) (a : Addr), h₁.get? a = some (seqObj "list" vs.toArray 0) → (∀ b o, s.heap.get? b = some o → b ≠ a ∧ h₁.get? b = some o) → SortableO prog w A.in1.in1 { s with heap := h₁ } a vs lt)
    (k : ∀ out : List Value, Srtd lt out → Stb lt out vs → Q (.ref (s.heap.objs.size + 1)) { s with heap := sortedAll s.heap vs out.toArray }) : wpAny (model prog w) A (call (.builtin "sorted") [.ref l]) Q E s := by
  obtain ⟨h1, e1⟩ : ∃ h1, h1 = (s.heap.push (seqObj "list" #[] 0)).update s.heap.objs.size (Obj.mapSeq (· ++ vs.toArray)) := ⟨_, rfl⟩
  have z : h1.objs.size = s.heap.objs.size + 1 := by rw [e1, Heap.size_update, size_push']
  have at1 : (h1.push (seqObj "list" vs.toArray 0)).get? (s.heap.objs.size + 1) = some (seqObj "list" vs.toArray 0) := by rw [← z]; exact Heap.get?_push_size _ rfl
  have old : ∀ b o, s.heap.get? b = some o → b ≠ s.heap.objs.size + 1 ∧ (h1.push (seqObj "list" vs.toArray 0)).get? b = some o := fun b o g => by
    have lt' : b < s.heap.objs.size := Heap.lt_size g
    refine ⟨Nat.ne_of_lt (Nat.lt_succ_of_lt lt'), Heap.get?_push_of_some _ ?_⟩
    rw [e1, Heap.get?_update_ne _ _ _ _ (Nat.ne_of_lt lt')]; exact Heap.get?_push_of_some _ g
  refine Calls.call_function_entry kind_sorted plain_sorted entry_sorted (args_sorted1 _) ?_; unfold Builtin.«sorted»
  refine wpAny_bind (m := checkCount "sorted" 1 1 _) (wpAny_pure (wpAny_bind (collectT tp sz (wpAny_bind (wpAny_newList ?_ sz)))))
  rw [← e1]
  show wpAny _ _ _ _ _ { s with heap := h1.push (seqObj "list" vs.toArray 0) }
  rw [z]
  refine wpAny_bind (wpAny_holding (wpAny_call_entry slot_list_sort ⟨_, at1, rfl⟩ entry_list_sort (list_sort_ord O at1 sz (fun h2 => ord h2 _ _ at1 old) fun out c1 c2 => ⟨_, rfl, wpAny_pure ⟨_, rfl, ?_⟩⟩) (args_list_sort _)))
  have kk := k out c1 c2
  unfold sortedAll at kk
  rw [← e1] at kk
  exact kk
end
def rSortedT (K : PySem.W.Frag) : List V → Hp → VK → Prop := fun vs H Q => ∃ (a : Addr) (ns : List Int), vs = [V.ref a] ∧ SqT K H a (ns.map V.int) ∧ ∀ (ms : List Int) (p : Addr), ms.Perm ns → ms.Pairwise (· ≤ ·) → H p = none → Q (.ref p) (upd H p (.lst (ms.map V.int)))
theorem cr_sortedT {X : Cx} : CallR X (.builtin "sorted") (rSortedT X.K) := by
  intro pins s σ H vs us Q I r ⟨a, ns, ev, hq, q⟩
  subst ev
  obtain ⟨its, rv, tp, sz⟩ := I.tuple hq
  rw [Vals.ref1 r]
  have hi := rv.ints
  refine sortT swo_int tp (by rw [← rv.length]; exact sz) (fun h2 h₁ a' _ _ => ints_sortable hi h2) fun out c1 c2 => ?_
  obtain ⟨k1, k2, k3⟩ := ints_out hi c1 c2
  obtain ⟨ep, at1⟩ := PyProof.Rows.sortedAll_at s.heap its out.toArray
  have ll : ((out.map iv).map V.int).length ≤ sizeLine := by rw [List.length_map, k2.length_eq]; rw [List.length_map] at sz; exact sz
  have I2 := I.laid (t' := s.toks) (o := .lst ((out.map iv).map V.int)) (fun _ _ => PyProof.Rows.sortedAll_old) (Nat.le_succ _) (show ObjOk X.prog X.w _ _ _ (.lst _) from ⟨ll, out, ep, vals_of_ints k1, at1⟩)
  exact ⟨.ref _, _, I2, rfl, q _ _ k2 k3 (I.hok.fresh (Nat.le_succ _))⟩
def rSortedU (K : PySem.W.Frag) : List V → Hp → VK → Prop := fun xs H Q => rSortedI K xs H Q ∨ rSortedT K xs H Q
variable [kk : KK]
theorem cr_sortedU {X : Cx} : CallR X (.builtin "sorted") (rSortedU X.K) := CallR.or cr_sortedI cr_sortedT
def sortP : PD → Option PD
  | .list ds => (unI ds).bind fun ns => some (.list ((sortI ns).map PyData.int))
  | .tuple ds => (unI ds).bind fun ns => some (.list ((sortI ns).map PyData.int))
  | _ => none
theorem sc_sort : SC (rSortedU K) (on1 sortP) := sc_on1 fun x z h S H v al rv Q q => by
  have fin : ∀ ns ms : List Int, ms.Perm ns → ms.Pairwise (· ≤ ·) → ms = sortI ns := fun ns ms p o => sorted_eq (p.trans (sortI_perm ns).symm) o (sortI_sorted ns)
  cases rv with
  | lst ha ra =>
    obtain ⟨ns, h1, h2⟩ := bind_some h
    have e := unI_eq h1
    subst e
    have e := ra.ints
    subst e
    cases h2
    refine .inl ⟨_, ns, rfl, .inl (.inl (hid_le _ _ ha)), fun ms p pm so hp => ?_⟩
    have e := fin ns ms pm so
    subst e
    exact q _ _ (Ex.new hp) (.lst (new_ok al hp) (RpAll.ofInts _))
  | tup ha _ ra =>
    obtain ⟨ns, h1, h2⟩ := bind_some h
    have e := unI_eq h1
    subst e
    have e := ra.ints
    subst e
    cases h2
    refine .inr ⟨_, ns, rfl, .inl (.inr ⟨_, hid_le _ _ ha⟩), fun ms p pm so hp => ?_⟩
    have e := fin ns ms pm so
    subst e
    exact q _ _ (Ex.new hp) (.lst (new_ok al hp) (RpAll.ofInts _))
  | _ => cases h
end Uv

namespace Uv
open PySem PySem.Spec PyProof.Rows L2
open Evl (Ex)
variable [kk : KK]
/-! ### new lists by operations -/
abbrev NewL (S : Hs) (H : Hp) (ds : List PD) (Q : VK) : Prop := ∀ p vs H2, Ex H H2 → H p = none → H2 p = some (.lst vs) → RpAll (hid (fun x => x = p ∨ S x) H2) vs ds → Q (.ref p) H2
def RoF (r : R2) (x y : PD) (ds : List PD) : Prop := ∀ S H vx vy, Al S H → Rp (hid S H) vx x → Rp (hid S H) vy y → ∀ Q : VK, NewL S H ds Q → r vx vy H Q
def SOF (r : R2) (f : PD → PD → Option PD) : Prop := ∀ x y z, f x y = some z → ∃ ds, z = .list ds ∧ RoF r x y ds
theorem ex_free {H H1 : Hp} {p : Addr} (e : Ex H H1) (hp : H1 p = none) : H p = none := by
  cases q : H p with
  | none => rfl
  | some o => rw [e _ _ q] at hp; cases hp
section
variable {r : R2} {f : PD → PD → Option PD} {ta tb : TE} {a b : XE}
theorem sef_op (hr : SOF r f) (ha : SE ta a) (hb : SE tb b) : SEF (tOp r ta tb) (xOp f a b) := fun ρ d h => by
  obtain ⟨x, h1, h⟩ := bind_some h
  obtain ⟨y, h2, h⟩ := bind_some h
  obtain ⟨ds, rfl, g⟩ := hr x y d h
  refine ⟨ds, rfl, fun S σ H al en Q q => ha ρ x h1 S σ H al en _ fun v H1 e1 rv => hb ρ y h2 S σ H1 (al.ex e1) (en.ex (hid_ex e1)) _ fun u H2 e2 ru => ?_⟩
  exact g S H2 v u ((al.ex e1).ex e2) (rv.ex (hid_ex e2)) ru Q fun p vs H3 e3 hp h3 ra => q p vs H3 ((e1.trans e2).trans e3) (ex_free (e1.trans e2) hp) h3 ra
/-- a new list of drawn things -/
def wOO (f : PD → PD → Option PD) (a b : XW) : XWO := fun ρ => (a ρ).bind fun x => (b x.2).bind fun y => ((f x.1 y.1).bind asList).bind fun ds => some (ds.map Cel.dat, y.2)
theorem swo_op {a b : XW} (hr : SOF r f) (ha : SW ta a) (hb : SW tb b) : SWO (tOp r ta tb) (wOO f a b) := fun pn F T H σ ρ cs ρ' st e Q q => by
  obtain ⟨⟨x, ρ1⟩, h1, e⟩ := bind_some e
  obtain ⟨⟨y, ρ2⟩, h2, e⟩ := bind_some e
  obtain ⟨ds, h3, e⟩ := bind_some e
  obtain ⟨d, h3, h4⟩ := bind_some h3
  have ed := asList_eq h4
  subst ed
  cases e
  obtain ⟨ds', e', g⟩ := hr _ _ _ h3
  cases e'
  refine ha pn F T H σ ρ x ρ1 st h1 _ fun v T1 H1 st1 s1 rv => hb pn F T1 H1 σ ρ1 y _ st1 h2 _ fun u T2 H2 st2 s2 ru => ?_
  refine g (SF F T2) H2 v u st2.als (rv.ex s2.vis) ru Q fun p vs H3 e3 hp h3 ra => ?_
  obtain ⟨st3, vis⟩ := st2.fresh e3 hp (by rw [h3]; exact fun z => nomatch z)
  have s12 := s1.trans s2
  refine q _ [p] T2 H3 st3 (by simp) (fun x hx => ?_) (fun x hx => ((Stp.ex (T := T2) st2.al e3).fr x hx).trans (s12.fr x hx)) (s12.vis.trans vis) ⟨p, vs, [], rfl, h3, Cels.dats (by rw [SF_FL1]; exact ra), rfl⟩
  have ex : x = p := by simpa using hx
  rw [ex]
  exact st2.al.new hp
end
/-- lists put together -/
def catP : PD → PD → Option PD
  | .list xs, .list ys => if xs.length + ys.length ≤ 100000 then some (.list (xs ++ ys)) else none
  | _, _ => none
theorem sof_cat : SOF (rAddU K) catP := fun x y z h => by
  cases x with
  | list xs =>
    cases y with
    | list ys =>
      have h : (if xs.length + ys.length ≤ 100000 then some (PyData.list (xs ++ ys)) else none) = some z := h
      by_cases c : xs.length + ys.length ≤ 100000
      · rw [if_pos c] at h
        cases h
        refine ⟨_, rfl, fun S H vx vy al rx ry Q q => ?_⟩
        cases rx with
        | lst ha ra =>
          cases ry with
          | lst hb rb => exact .inr (.inl ⟨_, _, _, _, rfl, rfl, hid_le _ _ ha, hid_le _ _ hb, by rw [ra.length, rb.length]; exact Evl.sz_of c, fun p hp => q p _ _ (Ex.new hp) hp upd_same ((ra.append rb).ex (hid_cons (Ex.new hp) hp))⟩)
      · rw [if_neg c] at h; cases h
    | _ => cases h
  | _ => cases h
/-- a list so many times -/
def repP : PD → PD → Option PD
  | .list xs, .int j => if 0 ≤ j ∧ j ≤ 100000 ∧ xs.length * j.toNat ≤ 100000 then some (.list (List.replicate j.toNat xs).flatten) else none
  | _, _ => none
theorem sof_rep : SOF rMulU repP := fun x y z h => by
  cases x with
  | list xs =>
    cases y with
    | int j =>
      have h : (if 0 ≤ j ∧ j ≤ 100000 ∧ xs.length * j.toNat ≤ 100000 then some (PyData.list (List.replicate j.toNat xs).flatten) else none) = some z := h
      by_cases c : 0 ≤ j ∧ j ≤ 100000 ∧ xs.length * j.toNat ≤ 100000
      · rw [if_pos c] at h
        cases h
        refine ⟨_, rfl, fun S H vx vy al rx ry Q q => ?_⟩
        cases rx with
        | lst ha ra =>
          cases ry with
          | int _ =>
            refine .inr ⟨_, _, _, rfl, rfl, hid_le _ _ ha, by omega, by omega, ?_, fun p hp => q p _ _ (Ex.new hp) hp upd_same ((ra.rep j.toNat).ex (hid_cons (Ex.new hp) hp))⟩
            rw [ra.length]
            exact Evl.sz_of c.2.2
      · rw [if_neg c] at h; cases h
    | _ => cases h
  | _ => cases h
/-- a list's part -/
def cutP : PD → Option Int → Option Int → Option PD
  | .list ds, l, h => some (.list (cutD ds l h))
  | .dict [(.none, .list ds)], l, h => some (.list (cutD ds l h))
  | _, _, _ => none
def xCut (a : XE) (lo hi : XO) : XE := fun ρ => (a ρ).bind fun d => (lo ρ).bind fun l => (hi ρ).bind fun h => cutP d l h
theorem sef_cut {ta : TE} {tl th : TO} {a : XE} {lo hi : XO} (ha : SE ta a) (hl : SP tl lo) (hh : SP th hi) : SEF (tSl (rSlU K) ta tl th) (xCut a lo hi) := fun ρ d h => by
  obtain ⟨x, h1, h⟩ := bind_some h
  obtain ⟨l, h2, h⟩ := bind_some h
  obtain ⟨u, h3, h⟩ := bind_some h
  have main : ∀ ds : List PD, (x = .list ds ∨ x = scrD ds) → FrL (tSl (rSlU K) ta tl th) ρ (cutD ds l u) := fun ds hx S σ H al en Q q => by
    refine ha ρ x h1 S σ H al en _ fun v H1 e1 rv => hl ρ l h2 S σ H1 (al.ex e1) (en.ex (hid_ex e1)) _ fun H2 e2 => hh ρ u h3 S σ H2 ((al.ex e1).ex e2) ((en.ex (hid_ex e1)).ex (hid_ex e2)) _ fun H3 e3 => ?_
    have e23 := e2.trans e3
    have e13 := e1.trans e23
    have rv3 := rv.ex (hid_ex (S := S) e23)
    rcases hx with rfl | rfl
    · cases rv3 with
      | lst ha3 ra3 => exact .inl ⟨_, _, rfl, .inl (.inl (hid_le _ _ ha3)), fun p hp => q p _ _ (e13.trans (Ex.new hp)) (ex_free e13 hp) upd_same ((ra3.cut l u).ex (hid_cons (Ex.new hp) hp))⟩
    · cases rv3 with
      | scr hs ra3 => exact .inl ⟨_, _, rfl, sqx hid_le hs, fun p hp => q p _ _ (e13.trans (Ex.new hp)) (ex_free e13 hp) upd_same ((ra3.cut l u).ex (hid_cons (Ex.new hp) hp))⟩
  revert h
  unfold cutP
  split
  · intro h; cases h; exact ⟨_, rfl, main _ (.inl rfl)⟩
  · intro h; cases h; exact ⟨_, rfl, main _ (.inr rfl)⟩
  · intro h; cases h
/-! ### starred things in displays and calls -/
def partsP : PD → Option (List PD)
  | .list ds => some ds
  | .tuple ds => some ds
  | _ => none
def xStar (a : XE) (as : XA) : XA := fun ρ => (a ρ).bind fun x => (partsP x).bind fun xs => (as ρ).bind fun ys => some (xs ++ ys)
theorem parts_at {S : Hs} {H : Hp} {v : V} {x : PD} {xs : List PD} (r : Rp (hid S H) v x) (h : partsP x = some xs) : ∃ p vs, v = .ref p ∧ (SqT K H p vs ∨ SqL K H p vs) ∧ RpAll (hid S H) vs xs := by
  cases r with
  | lst ha ra => cases h; exact ⟨_, _, rfl, .inr (.inl (.inl (hid_le _ _ ha))), ra⟩
  | tup ha pl ra => cases h; exact ⟨_, _, rfl, .inl (.inl (.inr ⟨_, hid_le _ _ ha⟩)), ra⟩
  | _ => cases h
theorem sa_star {ta : TE} {ts : TA} {a : XE} {as : XA} (ha : SE ta a) (hs : SA ts as) : SA (StX.tStar K ta ts) (xStar a as) := fun ρ ds h S σ H al en Q q => by
  obtain ⟨x, h1, h⟩ := bind_some h
  obtain ⟨xs, h2, h⟩ := bind_some h
  obtain ⟨ys, h3, h⟩ := bind_some h
  cases h
  refine ha ρ x h1 S σ H al en _ fun v H1 e1 rv => ?_
  obtain ⟨p, vs, rfl, sq, ra⟩ := parts_at rv h2
  exact ⟨p, vs, rfl, sq, hs ρ ys h3 S σ H1 (al.ex e1) (en.ex (hid_ex e1)) _ fun us H2 e2 ru => q _ H2 (e1.trans e2) ((ra.ex (hid_ex e2)).append ru)⟩
/-! ### x is None, x is True, and not -/
def oIsU : R2 := fun x y H Q => oIsN x y H Q ∨ ∃ b c, x = .bl b ∧ y = .bl c ∧ Q (.bl (b == c)) H
def oNotU : R2 := fun x y H Q => oNotN x y H Q ∨ ∃ b c, x = .bl b ∧ y = .bl c ∧ Q (.bl (b != c)) H
theorem op_isU {X : Cx} : OpR X (compareOp .Is) oIsU := OpR.or op_isN fun pins s σ H x y v u Q I rx ry h => by
  obtain ⟨b, c, rfl, rfl, q⟩ := h
  cases rx
  cases ry
  exact PyProof.Rows.is_bool (fin_bl I q rfl)
theorem op_notU {X : Cx} : OpR X (compareOp .IsNot) oNotU := OpR.or op_notN fun pins s σ H x y v u Q I rx ry h => by
  obtain ⟨b, c, rfl, rfl, q⟩ := h
  cases rx
  cases ry
  exact PyProof.Rows.isnot_bool (fin_bl I q rfl)
def isU : PD → PD → Option PD
  | .bool b, .bool c => some (.bool (b == c))
  | x, .none => some (.bool (isNone x))
  | _, _ => none
def isntU : PD → PD → Option PD
  | .bool b, .bool c => some (.bool (b != c))
  | x, .none => some (.bool (!isNone x))
  | _, _ => none
theorem so_isU : SO oIsU isU := fun x y z h S H vx vy al rx ry Q q => by
  cases ry with
  | non =>
    have e : z = .bool (isNone x) := by cases x <;> (cases h; rfl)
    subst e
    exact .inl ⟨rfl, q _ H (Ex.refl H) (by rw [isNone_of rx]; exact .bl _)⟩
  | bl c =>
    cases rx with
    | bl b => cases h; exact .inr ⟨b, c, rfl, rfl, q _ H (Ex.refl H) (.bl _)⟩
    | _ => cases h
  | _ => cases x <;> cases h
theorem so_isntU : SO oNotU isntU := fun x y z h S H vx vy al rx ry Q q => by
  cases ry with
  | non =>
    have e : z = .bool (!isNone x) := by cases x <;> (cases h; rfl)
    subst e
    exact .inl ⟨rfl, q _ H (Ex.refl H) (by rw [isNone_of rx]; exact .bl _)⟩
  | bl c =>
    cases rx with
    | bl b => cases h; exact .inr ⟨b, c, rfl, rfl, q _ H (Ex.refl H) (.bl _)⟩
    | _ => cases h
  | _ => cases x <;> cases h
/-! ### a def that isn't gone into -/
section
variable {P : Program} {w : World} {mg : Str → Option Value} {base : Heap}
theorem cal_no {x : Str} {st : Stmt} {ps : List Str} {k : Nat} {sp : Sp} (F : Dfn K mg x st ps) (no : ∀ vs H Q E, ¬ sp vs H Q E) : CalG P w K mg base k x sp := by
  obtain ⟨f, fd, F, hm, b⟩ := F.ex
  exact ⟨f, fd, ps, ⟨fun vs H Q E h => (no vs H Q E h).elim, fun A outer s H args us vs Q E _ _ _ _ _ h => (no vs H Q E h).elim⟩, hm, F.kp, b⟩
theorem cal_none {x : Str} {st : Stmt} {ps : List Str} {k : Nat} (F : Dfn K mg x st ps) : CalG P w K mg base k x (spF fun _ => none) := cal_no F fun vs H Q E ⟨_, _, _, _, _, h, _⟩ => nomatch h
theorem cal_noneW {x : Str} {st : Stmt} {ps : List Str} {k : Nat} (F : Dfn K mg x st ps) : CalG P w K mg base k x (spW fun _ _ => none) := cal_no F fun vs H Q E ⟨_, _, _, _, _, _, _, _, _, _, _, _, _, _, h, _⟩ => nomatch h
end
/-- a comprehension within a comprehension -/
theorem rel_open {env : PySem.Env} {names : List (Str × NameKind)} {x : Str} (h : names.lookup x = some .cell ∨ names.lookup x = some .free) :
    (names.map fun (n, k) => if (k == NameKind.free && env.scope.kind == .function && env.kindOf n == some .cell) then (n, NameKind.cell) else (n, k)).lookup x = some .cell ∨
    (names.map fun (n, k) => if (k == NameKind.free && env.scope.kind == .function && env.kindOf n == some .cell) then (n, NameKind.cell) else (n, k)).lookup x = some .free := by
  induction names with
  | nil => rcases h with h | h <;> cases h
  | cons y ys ih =>
    obtain ⟨n, k⟩ := y
    rw [List.map_cons]
    by_cases c : (k == NameKind.free && env.scope.kind == .function && env.kindOf n == some .cell) = true
    · simp only [c, if_true, List.lookup_cons]
      cases e : x == n with
      | true => exact .inl rfl
      | false => rw [List.lookup_cons, e] at h; exact ih h
    · dsimp only
      rw [if_neg c, List.lookup_cons]
      cases e : x == n with
      | true => rw [List.lookup_cons, e] at h; exact h
      | false => rw [List.lookup_cons, e] at h; exact ih h
theorem blkOk_in {X : Cx} {s : Shared} {H : Hp} {sc0 scope : Scope} {cl : List (Str × Addr)} {C : Addr} {fp : List Addr} {N : List Str} {own : List (Str × Nat)} (hN : (X.blk s H sc0 (compEnvC sc0 cl C X.env) fp).N = N) (h : blkC N sc0 scope own = true) :
    BlkOk (X.blk s H sc0 (compEnvC sc0 cl C X.env) fp).N (X.blk s H sc0 (compEnvC sc0 cl C X.env) fp).env.scope scope own := by
  rw [hN]
  have b := blkOk_by h
  exact ⟨b.kind, b.uniq, b.ix, fun y hy e => rel_open (b.free y hy e), b.own⟩
end Uv

namespace Un
open PySem PySem.Spec PyProof.Rows L2
theorem tuple_mul1 (l : Addr) (its : Array Value) (n : Nat) (dd : Option Addr) (sl : Array (Option Value)) (u : Tok) :
    Meets (Builtin.«tuple.__mul__» ⟨[.ref l, .int 1 u], []⟩) (fun _ R st => st.heap.get? l = some { cls := .type "tuple", dict := dd, data := .seq its n, slots := sl } ∧ R (.ok (.ret (Value.ref l))) st) :=
  .of_wp fun prog w A R st hh => by
    obtain ⟨hp, gn, dr, tk, os⟩ := st
    obtain ⟨hl, hh⟩ := hh
    have f1 := AutoSeq1.idx_int
    have c0 : (decide ((1 : Int) < -(2 ^ 63)) || decide ((1 : Int) ≥ 2 ^ 63)) = false := by decide
    have c1 : (its.isEmpty || (1 : Int) == 1) = true := by simp
    wp_walk using AutoSeq1.wpAny_loadPart' hl
    exact ⟨_, rfl, hh⟩
/-- t * k, k from 1 on: once it is t itself -/
def rRepA (K : PySem.W.Frag) : R2 := fun x y H Q => ∃ l k xs, x = .ref l ∧ y = .int k ∧ SqT K H l xs ∧ xs ≠ [] ∧ 1 ≤ k ∧ k ≤ 1000 ∧ xs.length ≤ 1000 ∧ (k = 1 → Q (.ref l) H) ∧ (2 ≤ k → ∀ p, H p = none → Q (.ref p) (upd H p (.tup (List.replicate k.toNat xs).flatten)))
theorem op_repA {X : Cx} : OpR X (binaryOp .Mult) (rRepA X.K) := by
  intro pins s σ H x y v u Q I rx ry h
  obtain ⟨l, k, xs, rfl, rfl, hT, hne, h1, h2, hz, q1, q2⟩ := h
  by_cases hk : k = 1
  · subst hk
    cases rx
    obtain ⟨t, rfl⟩ := ry
    obtain ⟨its, r, ⟨⟨cls, dd, data, sl⟩, ho, hc, n, hd⟩, hs⟩ := I.tuple hT
    simp only at hc hd
    subst hc hd
    refine wpAny_binaryOp_repeat_ref (T := "tuple") (U := "int") (by decide) ⟨_, ho, rfl⟩ (fun s' => typeIs_int s' 1 t) noFill_tuple_mul F.fills_int_mul F.slot_int_rmul repeat_tuple F.slot_int_index.lookup ?_
    refine call_meets F.slot_int_rmul (typeIs_int s 1 t) F.entry_int_rmul (F.args_int_rmul_2 _ _) (int_rmul_tuple 1 t l its.toArray n dd sl) ⟨ho, rfl, ⟨_, ho, rfl⟩, ?_⟩
    exact call_meets F.slot_tuple_mul ⟨_, ho, rfl⟩ F.entry_tuple_mul (F.args_tuple_mul_2 _ _) (tuple_mul1 l its.toArray n dd sl t) ⟨ho, .ref l, H, I, rfl, q1 rfl⟩
  · exact op_repT pins s σ H _ _ v u Q I rx ry ⟨l, k, xs, rfl, rfl, hT, hne, by omega, h2, hz, q2 (by omega)⟩
end Un

namespace Uv
open PySem PySem.Spec PyProof.Rows L2
open Evl (Ex)
/-! ### xs[::-1] of a list or a tuple -/
section
variable {prog : Program} {w : World} {A : Around} {E : Value → Shared → Prop} {s : Shared}
theorem applied_back {sl : Addr} {n : Nat} {tk : Tok} {Q : Int × Int × Nat → Shared → Prop} (hs : s.heap.IsSliceOf sl .none .none (.int (-1) tk)) (h : Q ((n : Int) - 1, -1, n) s) : wpAny (model prog w) A (Builtin.Slice.sliceApplied (.ref sl) (pure (n : Int))) Q E s := by
  obtain ⟨ob, hob, hcl, hda⟩ := id hs
  unfold Builtin.Slice.sliceApplied Builtin.Slice.sliceFields
  refine wpAny_bind (wpAny_bind (wpAny_field hob hda (x := .none) rfl (wpAny_bind (wpAny_field hob hda (x := .none) rfl (wpAny_bind (wpAny_field hob hda (x := .int (-1) tk) rfl (wpAny_pure ?_)))))))
  refine wpAny_bind (HT.slicePart_ (.int (-1) tk) ?_)
  show wpAny _ _ (if ((-1 : Int) == 0) = true then _ else _) _ _ s
  rw [if_neg (by decide)]
  refine wpAny_bind (HT.slicePart_ .none (wpAny_bind (HT.slicePart_ .none (wpAny_bind (wpAny_pure ?_)))))
  have e1 : Builtin.Slice.sliceAdjust none none (-1) (n : Int) = ((n : Int) - 1, -1) := rfl
  have e2 : Builtin.Slice.slicePlaces ((n : Int) - 1) (-1) (-1) = n := by
    unfold Builtin.Slice.slicePlaces
    rw [if_neg (by decide)]
    split
    · rw [show (- (-1 : Int)) = 1 by decide, Int.ediv_one]
      omega
    · omega
  show wpAny _ _ (match Builtin.Slice.sliceAdjust none none (-1) (n : Int) with | (a, b) => pure (a, (-1 : Int), Builtin.Slice.slicePlaces a b (-1))) _ _ s
  rw [e1]
  show wpAny _ _ (pure ((n : Int) - 1, (-1 : Int), Builtin.Slice.slicePlaces ((n : Int) - 1) (-1) (-1))) _ _ s
  rw [e2]
  exact wpAny_pure h
theorem pick_back (xs : Array Value) : ((List.range xs.size).filterMap fun (m : Nat) => xs[(((xs.size : Int) - 1) + (m : Int) * (-1)).toNat]?).toArray = xs.toList.reverse.toArray := by
  congr 1
  have e : (fun (m : Nat) => xs[(((xs.size : Int) - 1) + (m : Int) * (-1)).toNat]?) = fun m => xs[xs.size - 1 - m]? := by
    funext m
    congr 1
    omega
  rw [e]
  have k := PySem.W.krv_range xs.size
  have k2 : (List.range xs.size).filterMap (fun m => xs[xs.size - 1 - m]?) = ((List.range xs.size).map fun m => xs.size - 1 - m).filterMap (xs[·]?) := by
    rw [List.filterMap_map]
    rfl
  rw [k2, k, List.filterMap_reverse, PySem.W.krv_all]
theorem getItem_tuple_back {t sl : Addr} {its : Array Value} {tk : Tok} {Q : Value → Shared → Prop} (ht : IsTup s.heap t its) (hs : s.heap.IsSliceOf sl .none .none (.int (-1) tk))
    (h : Q (.ref s.heap.objs.size) { s with heap := s.heap.push { cls := .type "tuple", data := .seq its.toList.reverse.toArray } }) (hz : its.size ≤ sizeLine) : wpAny (model prog w) A (getItem (.ref t) (.ref sl)) Q E s := by
  have ok : sizeOk (.seq its.toList.reverse.toArray) := by
    show its.toList.reverse.toArray.size ≤ sizeLine
    rw [List.size_toArray, List.length_reverse, Array.length_toList]
    exact hz
  obtain ⟨ob, hob, hcl, hda⟩ := id hs
  have ty : s.TypeIs (.ref sl) "slice" := ⟨ob, hob, hcl⟩
  unfold getItem
  try with_reducible refine wpAny_holding ?_
  first | refine wpAny_bind (wpAny_pure ?_) | skip
  refine wpAny_bind (wpAny_sequenceKey ht.typeIs (by decide) ?_)
  refine wpAny_bind (wpAny_callSpecial?_slot (name := Str.ofString "__getitem__") ht.typeIs PyProof.Rows.slot_tuple_getitem (wpAny_call_entry PyProof.Rows.slot_tuple_getitem ht.typeIs entry_tuple_getitem ?_ (args_tuple_getitem _ _)))
  show wpAny _ _ (Builtin.Tuple.tupleItemsOf (.ref t) >>= _) _ _ s
  refine wpAny_bind (tupleItemsOf_ ht (wpAny_bind (wpAny_typeOf ty ?_)))
  rw [if_pos (by decide)]
  refine wpAny_bind (applied_back hs ?_)
  have no : ¬ ((((its.size : Int) - 1) == 0 && (-1 : Int) == 1 && its.size == its.size) = true) := by
    rw [show ((-1 : Int) == 1) = false from rfl]
    simp
  show wpAny _ _ (if (((its.size : Int) - 1) == 0 && (-1 : Int) == 1 && its.size == its.size) = true then _ else _) _ _ s
  rw [if_neg no, pick_back]
  first
    | exact wpAny_bind (m := Builtin.Tuple.tupleExact _) (wpAny_newObj_type (wpAny_pure ⟨_, rfl, wpAny_pure h⟩) ok)
    | exact wpAny_bind (m := Builtin.Tuple.tupleExact _) (wpAny_newObj_type (wpAny_bind (wpAny_pure (wpAny_pure ⟨_, rfl, wpAny_pure h⟩))) ok)
    | exact wpAny_bind (wpAny_bind (m := Builtin.Tuple.tupleExact _) (wpAny_newObj_type (wpAny_pure (wpAny_pure ⟨_, rfl, wpAny_pure h⟩)) ok))
    | exact wpAny_bind (wpAny_bind (m := Builtin.Tuple.tupleExact _) (wpAny_newObj_type (wpAny_pure ⟨_, rfl, wpAny_pure h⟩) ok))
end
/-- the reading of e[::-1] -/
def tBack (K : PySem.W.Frag) (te : TE) : TE := fun σ H Q => te σ H fun x H1 => ∃ a xs, x = .ref a ∧ ((SqL K H1 a xs ∧ ∀ p, H1 p = none → Q (.ref p) (upd H1 p (.lst xs.reverse))) ∨ (SqT K H1 a xs ∧ ∀ p o, H1 p = none → Plain o → Q (.ref p) (upd H1 p (fz o xs.reverse))))
theorem rev_vals {vs : List V} {us : List Value} (h : Vals vs us) : Vals vs.reverse us.reverse := by
  induction h with
  | nil => exact .nil
  | cons r _ ih => rw [List.reverse_cons, List.reverse_cons]; exact ih.append (.cons r .nil)
theorem pe_back {X : Cx} {e : Expr} {te : TE} {p1 p2 p3 pos : Pos} {k1} (he : PE X e te) : PE X (.Subscript e (.Slice none none (some (.UnaryOp .USub (.Constant (.int 1) k1 p1) p2)) p3) pos) (tBack X.K te) := by
  refine ⟨fun pins s σ H Q I h => ?_⟩
  refine Subscript_ (thn (he.run pins s σ H _ I h) fun v s1 ⟨x, H1, I1, r1, q1⟩ => ?_)
  refine wpAny_Slice ?_
  rw [evalPart_none, evalPart_some]
  refine wpAny_pure (wpAny_pure ?_)
  have un : PE X (.UnaryOp .USub (.Constant (.int 1) k1 p1) p2) (tUn (rU fun i => .int (-i)) (tC (.int 1))) := pe_un un_neg pe_int
  refine thn (un.run pins s1 σ H1 (fun z H' => z = .int (-1) ∧ H' = H1) I1 ⟨1, rfl, rfl, rfl⟩) fun vk s2 ⟨z, H2, I2, rz, ez, eH⟩ => ?_
  subst ez eH
  obtain ⟨tk, rfl⟩ := rz
  obtain ⟨a, xs, rfl, q1⟩ := q1
  cases r1
  have I4 : Inv X pins σ H2 { s2 with heap := s2.heap.push { cls := .type "slice", data := .fields #[.none, .none, .int (-1) tk] } } := I2.kept (t' := s2.toks) fun b ob q => Heap.get?_push_of_some _ q
  rcases q1 with ⟨hx, q⟩ | ⟨hx, q⟩
  · obtain ⟨its, r, pl, hz⟩ := I4.list hx
    have hl := r.length
    refine tail_any (ops := [.ref a, .ref s2.heap.objs.size]) pl.isList.typeIs PySem.list_getitem_lookup ?_ (by with_unfolding_all rfl)
    refine wpAny_getItem_list_slice pl.isList (Heap.IsSliceOf.new ..) .none .none (.int (-1) tk) (by decide) ?_ (by rw [List.size_toArray, ← hl]; exact hz)
    rw [PySem.W.krv_pick]
    have ok := I4.laid (t' := s2.toks) (o := .lst xs.reverse) (fun b ob q => Heap.get?_push_of_some _ q) (Nat.le_refl _) (show ObjOk X.prog X.w _ _ _ (.lst xs.reverse) from ⟨by rw [List.length_reverse]; exact hz, _, 0, rev_vals r, Heap.get?_push_size _ rfl⟩)
    exact ⟨.ref _, _, ok, rfl, q _ (I4.hok.fresh (Nat.le_refl _))⟩
  · obtain ⟨its, r, pt, hz⟩ := I4.tuple hx
    have hl := r.length
    refine tail_any (ops := [.ref a, .ref s2.heap.objs.size]) pt.typeIs PyProof.Rows.slot_tuple_getitem.lookup ?_ (by with_unfolding_all rfl)
    refine getItem_tuple_back pt (Heap.IsSliceOf.new ..) ?_ (by rw [List.size_toArray, ← hl]; exact hz)
    have ok := I4.laid (t' := s2.toks) (o := fz _ xs.reverse) (fun b ob q => Heap.get?_push_of_some _ q) (Nat.le_refl _) (show ObjOk X.prog X.w _ _ _ (.frz _ (.tup xs.reverse)) from ⟨Heap.get?_push_size _ rfl, by rw [List.length_reverse]; exact hz, _, rev_vals r, IsTup.new _ _⟩)
    exact ⟨.ref _, _, ok, rfl, q _ _ (I4.hok.fresh (Nat.le_refl _)) ⟨rfl, rfl⟩⟩
end Uv

namespace Uv
open PySem PySem.Spec PyProof.Rows L2
open Evl (Ex)
/-! ### t * k of a tuple, k from 0 on -/
theorem tuple_mul0 (l : Addr) (its : Array Value) (n : Nat) (dd : Option Addr) (sl : Array (Option Value)) (u : Tok) (hne : its.isEmpty = false) :
    Meets (Builtin.«tuple.__mul__» ⟨[.ref l, .int 0 u], []⟩) (fun _ R st => st.heap.get? l = some { cls := .type "tuple", dict := dd, data := .seq its n, slots := sl } ∧ R (.ok (.ret (Value.ref st.heap.objs.size))) { st with heap := st.heap.push { cls := Value.type "tuple", data := Data.seq #[] }, toks := st.toks }) :=
  .of_wp fun prog w A R st hh => by
    obtain ⟨hp, gn, dr, tk, os⟩ := st
    obtain ⟨hl, hh⟩ := hh
    have f1 := AutoSeq1.idx_int
    have c0 : (decide ((0 : Int) < -(2 ^ 63)) || decide ((0 : Int) ≥ 2 ^ 63)) = false := by decide
    have c1 : (its.isEmpty || (0 : Int) == 1) = false := by rw [hne]; rfl
    wp_walk using AutoSeq1.wpAny_loadPart' hl
    repeat (first
      | (refine wpAny_ite_false (decide_eq_false (by rw [c0]; exact Bool.false_ne_true)) ?_; wp_walk using AutoSeq1.wpAny_loadPart' hl)
      | (refine wpAny_ite_false (decide_eq_false (by rw [c1]; exact Bool.false_ne_true)) ?_; wp_walk using AutoSeq1.wpAny_loadPart' hl))
    exact ⟨_, rfl, hh⟩
def rRepF (K : PySem.W.Frag) : R2 := fun x y H Q => ∃ l k xs, x = .ref l ∧ y = .int k ∧ SqT K H l xs ∧ xs ≠ [] ∧ 0 ≤ k ∧ k ≤ 1000 ∧ xs.length ≤ 1000 ∧ (k = 1 → Q (.ref l) H) ∧ (k ≠ 1 → ∀ p o, H p = none → Plain o → Q (.ref p) (upd H p (fz o (List.replicate k.toNat xs).flatten)))
theorem op_repF {X : Cx} : OpR X (binaryOp .Mult) (rRepF X.K) := by
  intro pins s σ H x y v u Q I rx ry h
  obtain ⟨l, k, xs, rfl, rfl, hT, hne, h1, h2, hz, q1, q2⟩ := h
  cases rx
  obtain ⟨t, rfl⟩ := ry
  obtain ⟨its, r, ⟨⟨cls, dd, data, sl⟩, ho, hc, n, hd⟩, hs⟩ := I.tuple hT
  simp only at hc hd
  subst hc hd
  have hle : its.length = xs.length := r.length.symm
  have hi : its.toArray.isEmpty = false := by
    cases its with
    | nil => exact absurd (List.eq_nil_of_length_eq_zero hle.symm) hne
    | cons a b => rfl
  refine wpAny_binaryOp_repeat_ref (T := "tuple") (U := "int") (by decide) ⟨_, ho, rfl⟩ (fun s' => typeIs_int s' k t) noFill_tuple_mul F.fills_int_mul F.slot_int_rmul repeat_tuple F.slot_int_index.lookup ?_
  refine call_meets F.slot_int_rmul (typeIs_int s k t) F.entry_int_rmul (F.args_int_rmul_2 _ _) (int_rmul_tuple k t l its.toArray n dd sl) ⟨ho, rfl, ⟨_, ho, rfl⟩, ?_⟩
  have new : ∀ (us : List Value) (vs : List V), Vals vs us → vs.length ≤ sizeLine → (∀ p o, H p = none → Plain o → Q (.ref p) (upd H p (fz o vs))) → EP X pins σ Q (.ref s.heap.objs.size) { s with heap := s.heap.push { cls := Value.type "tuple", data := Data.seq us.toArray }, toks := s.toks } := fun us vs rv hv q => by
    have ok := I.laid (t' := s.toks) (o := fz _ vs) (fun b ob e => Heap.get?_push_of_some _ e) (Nat.le_refl _) (show ObjOk X.prog X.w _ _ _ (.frz _ (.tup vs)) from ⟨Heap.get?_push_size _ rfl, hv, us, rv, IsTup.new _ _⟩)
    exact ⟨.ref s.heap.objs.size, _, ok, rfl, q _ _ (I.hok.fresh (Nat.le_refl _)) ⟨rfl, rfl⟩⟩
  by_cases hk : k = 1
  · subst hk
    exact call_meets F.slot_tuple_mul ⟨_, ho, rfl⟩ F.entry_tuple_mul (F.args_tuple_mul_2 _ _) (Un.tuple_mul1 l its.toArray n dd sl t) ⟨ho, .ref l, H, I, rfl, q1 rfl⟩
  · have q2 := q2 hk
    by_cases h0 : k = 0
    · subst h0
      exact call_meets F.slot_tuple_mul ⟨_, ho, rfl⟩ F.entry_tuple_mul (F.args_tuple_mul_2 _ _) (tuple_mul0 l its.toArray n dd sl t hi) ⟨ho, new [] [] .nil (Nat.zero_le _) q2⟩
    · have hm : ((its.toArray.size : Nat) : Int) * k ≤ 1000000 := by
        rw [List.size_toArray, hle]
        have a1 : ((xs.length : Nat) : Int) * k ≤ 1000 * k := Int.mul_le_mul_of_nonneg_right (by omega) (by omega)
        omega
      have flen : (List.replicate k.toNat its).flatten.length ≤ sizeLine := by
        rw [PyProof.Rows.lm_len_rep_flat, hle, sizeLine_eq]
        have a1 : k.toNat * xs.length ≤ 1000 * 1000 := Nat.mul_le_mul (by omega) hz
        omega
      have rep : ∀ m : Nat, Vals (List.replicate m xs).flatten (List.replicate m its).flatten := fun m => by
        induction m with
        | zero => exact .nil
        | succ m ih => rw [List.replicate_succ, List.replicate_succ, List.flatten_cons, List.flatten_cons]; exact r.append ih
      have c0 : (decide (k < -(2 ^ 63)) || decide (k ≥ 2 ^ 63)) = false := by rw [decide_eq_false (by omega), decide_eq_false (by omega)]; rfl
      have c1 : (its.toArray.isEmpty || k == 1) = false := by rw [hi, Bool.false_or]; exact beq_eq_false_iff_ne.mpr hk
      have c2 : (decide (k ≤ 0) || its.toArray.isEmpty) = false := by rw [hi, Bool.or_false]; exact decide_eq_false (by omega)
      have c4 : Builtin.Tuple.tupleTooMany (((its.toArray.size : Nat) : Int) * k) = false := by unfold Builtin.Tuple.tupleTooMany; rw [sizeLine_eq]; exact decide_eq_false (by omega)
      refine call_meets F.slot_tuple_mul ⟨_, ho, rfl⟩ F.entry_tuple_mul (F.args_tuple_mul_2 _ _) (tuple_mulW l its.toArray n dd sl k t c0 c1 c2 (by omega) c4 (by rw [size_rep, List.size_toArray]; exact flen)) ⟨ho, ?_⟩
      rw [size_rep]
      exact new _ _ (rep k.toNat) (by rw [(rep k.toNat).length]; exact flen) q2
/-! ### tuple(range(n)) -/
def tTupRgF (te : L2.St → Hp → (Int → Int → Hp → Prop) → Prop) : TE := fun σ H Q => te σ H fun a b H1 => RgOk a b ∧ ∀ q o, H1 q = none → Plain o → Q (.ref q) (upd H1 q (fz o (rgV a b)))
theorem pe_tupRgF {X : Cx} {e : Expr} {te : L2.St → Hp → (Int → Int → Hp → Prop) → Prop} {p pos : Pos} (hc : X.calm = true) (hg : Gl X "tuple") (hm : X.mg "tuple" = none) (he : PRg X e te) (na : starEach [e] X.env = (false, eval e X.env) :: starEach [] X.env := by rfl) : PE X (.Call (.Name "tuple" p) [e] [] pos) (tTupRgF te) := by
  refine ⟨fun pins s σ H Q I h => ?_⟩
  refine Call_ (ld_blt I hg hm boot_tuple (PyProof.Rows.callWith_type1 (args_cons (thn (he pins s σ H _ I h) fun x s1 ⟨r, a, b, t, u, v, H1, ex, hr, I1, ok, q⟩ => args_nil ?_) na) na))
  subst ex
  obtain ⟨b1, b2, b3, b4, b5⟩ := ok
  refine call_tuple_range (n := (b - a).toNat) (I1.ok.hd hc) hr (small_one b1 b2 b3 b4) (rangeSize_nat a b) b5 fun h' tk acc hk hi => ?_
  have I2 : Inv X pins σ H1 { s1 with heap := h', toks := tk } := I1.kept hk
  have sz : (rgV a b).length ≤ sizeLine := by rw [rgV_length, sizeLine_eq]; omega
  have I3 := I2.laid (t' := tk) (o := fz _ (rgV a b)) (fun c o e => Heap.get?_push_of_some _ e) (Nat.le_refl _) (show ObjOk X.prog X.w _ _ _ (.frz _ (.tup (rgV a b))) from ⟨Heap.get?_push_size _ rfl, sz, acc.toList, vals_rg hi, by rw [Array.toArray_toList]; exact IsTup.new _ _⟩)
  exact ⟨.ref h'.objs.size, _, I3, rfl, q _ _ (I2.hok.fresh (Nat.le_refl _)) ⟨rfl, rfl⟩⟩
/-! ### a, b, c = x, y, z -/
def tPar3 (i j k : Nat) (ta : TA) : TS := fun D σ H => ta σ H fun vs H1 => ∃ v w z, vs = [v, w, z] ∧ D.nx (((σ.set i (some v)).set j (some w)).set k (some z)) H1
theorem ps_par3 {X : Cx} {i j k : Nat} {x y z : Str} {a b c : Expr} {ta : TA} {px py pz pt pos : Pos} {kt k2 pt2} (hc : X.calm = true) (hN : X.N.Nodup) (hi : X.N[i]? = some x) (hj : X.N[j]? = some y) (hk : X.N[k]? = some z) (hij : i ≠ j) (hik : i ≠ k) (hjk : j ≠ k)
    (hx : X.env.scope.names.lookup x = some .local) (hy : X.env.scope.names.lookup y = some .local) (hz : X.env.scope.names.lookup z = some .local) (ha : PA X [a, b, c] ta)
    (hw : swappedStores [.Tuple [.Name x px, .Name y py, .Name z pz] kt pt] (.Tuple [a, b, c] k2 pt2) X.env = pure (some [x, y, z]))
    (hs : swapsWithSole [.Tuple [.Name x px, .Name y py, .Name z pz] kt pt] (.Tuple [a, b, c] k2 pt2) pos.line X.env = pure false := by rfl) :
    PS X (.Assign [.Tuple [.Name x px, .Name y py, .Name z pz] kt pt] (.Tuple [a, b, c] k2 pt2) pos) (tPar3 i j k ta) := by
  refine ⟨fun pins s σ H D I h => ?_⟩
  rw [exec_Assign_arm]
  refine wpAny_bind (wpAny_standAt ?_)
  rw [hs]
  refine wpAny_bind (wpAny_pure ?_)
  rw [if_neg (by decide)]
  refine wpAny_bind (Tuple_ (thn (ha.run _ pins s σ H _ I h) fun us s1 ⟨vs, H1, I1, r1, q1⟩ => ?_))
  obtain ⟨v1, v2, v3, e1, q1⟩ := q1
  subst e1
  obtain ⟨u1, u2, u3, rfl, r1, r2, r3⟩ := vals3 r1
  refine wpAny_newObj_type ?_ (by show 3 ≤ sizeLine; decide)
  have I2 : Inv X pins σ H1 { s1 with heap := s1.heap.push { cls := .type "tuple", data := .seq [u1, u2, u3].toArray } } := I1.kept (t' := s1.toks) fun b o e => Heap.get?_push_of_some _ e
  rw [hw]
  refine wpAny_bind (wpAny_pure ?_)
  show wpAny (model X.prog X.w) X.A (do rule "assign.swapped-stores"; let items ← unpackItems (.ref s1.heap.objs.size) 3 none; assignInOrder [fun v => bindName X.env z v, fun v => bindName X.env y v, fun v => bindName X.env x v] items.reverse; pure Flow.next) _ _ _
  refine wpAny_bind (wpAny_rule (wpAny_bind (unpackItems_tuple (items := #[u1, u2, u3]) (I.ok.hd hc) (IsTup.new s1.heap _) fun h' hx' => ?_)))
  have I3 := I2.kept (h' := h') (t' := s1.toks) fun b o e => hx' b o (Nat.ne_of_lt (Heap.lt_size e)) e
  show wpAny _ _ (assignInOrder [fun v => bindName X.env z v, fun v => bindName X.env y v, fun v => bindName X.env x v] [u3, u2, u1] >>= fun _ => pure Flow.next) _ _ _
  refine wpAny_bind (assignInOrder_cons (wpAny_bindName (store_ok I3 hN hk (.inl hz) r3 (fun s2 I4 => ?_) (.inr hz))))
  refine assignInOrder_cons (wpAny_bindName (store_ok I4 hN hj (.inl hy) r2 (fun s3 I5 => ?_) (.inr hy)))
  refine assignInOrder_cons (wpAny_bindName (store_ok I5 hN hi (.inl hx) r1 (fun s4 I6 => assignInOrder_nil (wpAny_pure ?_)) (.inr hx)))
  rw [List.set_comm _ _ (Ne.symm hjk), List.set_comm _ _ (Ne.symm hik), List.set_comm _ _ (Ne.symm hij)] at I6
  exact ⟨_, H1, I6, q1⟩
/-! ### xs[i] op= e of a list -/
theorem get_list {X : Cx} : PGet X (rIxL X.K) := fun pins s σ H o i ov iv Q I ro ri h => by
  obtain ⟨p, xs, k, z, rfl, rfl, hq, he, q⟩ := h
  cases ro
  obtain ⟨t, rfl⟩ := ri
  obtain ⟨its, r, pl, hz⟩ := I.list hq
  obtain ⟨j, h1, h2, h3, h4, h5⟩ := atI_get he
  obtain ⟨u, eu, ru⟩ := r.get h2
  have hl := r.length
  have hn := line63
  have fin : EP X pins σ Q u s := ⟨z, H, I, ru, q⟩
  by_cases h0 : 0 ≤ k
  · have hj : k.toNat = j := by
      rw [seqIndex_of h0 h5] at h1
      exact Option.some.inj h1
    exact wpAny_getItem_list pl.isList h0 (by omega) (by rw [hj]; simpa using eu) fin
  · have hj : (k + (its.toArray.size : Int)).toNat = j := by
      rw [seqIndex_neg (by omega) h4] at h1
      rw [List.size_toArray, ← hl]
      exact Option.some.inj h1
    exact wpAny_getItem_list_neg pl.isList (by omega) (by rw [List.size_toArray] <;> omega) (by omega) (by rw [hj]; simpa using eu) fin
section
variable [kk : KK]
def sAug (i : Nat) (f : Int → Int → Int) (k a : XE) : XS := fun ρ => (ownAt ρ i).bind fun cs => ((k (vw ρ)).bind isI).bind fun k => (ixN cs.length k).bind fun n => ((datAt cs n).bind isI).bind fun x => ((a (vw ρ)).bind isI).bind fun y => some (.nxt (ρ.set i (.own (cs.set n (.dat (.int (f x y)))))))
theorem Cels.dat_at {G H : Hp} : ∀ (n : Nat) {vs : List V} {cs : List Cel} {B : List Addr} {d : PD}, Cels G H vs cs B → cs[n]? = some (.dat d) → ∃ v, vs[n]? = some v ∧ Rp G v d
  | _, _, _, _, _, .nil, h => by simp at h
  | 0, _, _, _, _, .dat r c, h => by simp at h; subst h; exact ⟨_, rfl, r⟩
  | 0, _, _, _, _, .sub _ _ c, h => by simp at h
  | n + 1, _, _, _, _, .dat h0 c, h => by obtain ⟨v, h1, h2⟩ := Cels.dat_at n c (by simpa using h); exact ⟨v, by simpa using h1, h2⟩
  | n + 1, _, _, _, _, .sub h1 h2 c, h => by obtain ⟨v, h1, h2⟩ := Cels.dat_at n c (by simpa using h); exact ⟨v, by simpa using h1, h2⟩
theorem ss_aug {i : Nat} {f : Int → Int → Int} {tk te : TE} {k a : XE} (hk : SE tk k) (ha : SE te a) : SS (tAugS (tVar i) tk te (rIxL K) (ipI f) rSetL) (sAug i f k a) := fun pn F T H σ ρ o D st e q => by
  obtain ⟨cs, h2, e⟩ := bind_some e
  obtain ⟨kk', h3, e⟩ := bind_some e
  obtain ⟨dk, h3, h4⟩ := bind_some h3
  obtain ⟨n, hn, e⟩ := bind_some e
  obtain ⟨x, hx, e⟩ := bind_some e
  obtain ⟨dx, hx, hx'⟩ := bind_some hx
  obtain ⟨y, hy, e⟩ := bind_some e
  obtain ⟨dy, hy, hy'⟩ := bind_some hy
  cases e
  have e1 : dk = _ := isI_eq h4
  have e2 : dx = _ := isI_eq hx'
  have e3 : dy = _ := isI_eq hy'
  subst e1 e2 e3
  obtain ⟨a', vs', B', ha', hv', hc', hT⟩ := st.at_own (ownAt_eq h2)
  refine ⟨.ref a', ha', hk _ _ h3 F σ H st.al st.vw _ fun vk H2 e2 rk => ?_⟩
  cases rk
  have st2 := st.ex e2
  have s2 : Stp F T H T H2 := Stp.ex st.al e2
  obtain ⟨a2, vs2, B2, ha2, hv2, hc2, hT2⟩ := st2.at_own (ownAt_eq h2)
  have ea : a2 = a' := by rw [ha2] at ha'; cases ha'; rfl
  subst ea
  obtain ⟨v, g1, g2⟩ := Cels.dat_at n hc2 (datAt_eq hx)
  cases g2
  refine ⟨a2, vs2, kk', .int x, rfl, rfl, .inl (.inl hv2), ?_, ha _ _ hy F σ H2 st2.al st2.vw _ fun vy H3 e3 ry => ?_⟩
  · unfold atI
    rw [hc2.length, hn]
    exact g1
  · cases ry
    have st3 := st2.ex e3
    have s3 : Stp F T H2 T H3 := Stp.ex st2.al e3
    obtain ⟨a3, vs3, B3, ha3, hv3, hc3, hT3⟩ := st3.at_own (ownAt_eq h2)
    have ea : a3 = a2 := by rw [ha3] at ha2; cases ha2; rfl
    subst ea
    obtain ⟨st4, s4⟩ := st3.write (ownAt_eq h2) hT3 ha3 (hc3.set n (datAt_eq hx) (.int (f x y)))
    exact ⟨x, y, rfl, rfl, a3, vs3, kk', n, rfl, rfl, hv3, by rw [hc3.length]; exact hn, q σ T _ st4 ((s2.trans s3).trans s4)⟩
/-! names set together, three -/
def three : List Cel → Option (Cel × Cel × Cel)
  | [a, b, c] => some (a, b, c)
  | _ => none
theorem three_eq {cs : List Cel} {c d e : Cel} (h : three cs = some (c, d, e)) : cs = [c, d, e] := by
  unfold three at h
  split at h
  · cases h; rfl
  · cases h
def sPar3 (i j k : Nat) (as : XWC) : XS := fun ρ => (as ρ).bind fun x => (three x.1).bind fun c => if i < x.2.length ∧ j < x.2.length ∧ k < x.2.length then some (.nxt (((x.2.set i (toSl c.1)).set j (toSl c.2.1)).set k (toSl c.2.2))) else none
theorem cels_split {G H : Hp} {v : V} {vs : List V} {c : Cel} {cs : List Cel} {B : List Addr} (h : Cels G H (v :: vs) (c :: cs) B) : ∃ B1 B2, B = B1 ++ B2 ∧ Cels G H [v] [c] B1 ∧ Cels G H vs cs B2 := by
  cases h with
  | dat r n => exact ⟨[], B, rfl, .dat r .nil, n⟩
  | sub hb r n => exact ⟨[_], _, rfl, .sub hb r .nil, n⟩
theorem ss_par3 {i j k : Nat} {ts : TA} {as : XWC} (hi : i ≠ 0) (hj : j ≠ 0) (hk : k ≠ 0) (hs : SWC ts as) : SS (tPar3 i j k ts) (sPar3 i j k as) := fun pn F T H σ ρ o D st e q => by
  obtain ⟨⟨cs, ρ1⟩, h1, e⟩ := bind_some e
  obtain ⟨⟨c, d, g⟩, h2, e⟩ := bind_some e
  have ec : cs = _ := three_eq h2
  subst ec
  by_cases hl : i < ρ1.length ∧ j < ρ1.length ∧ k < ρ1.length
  · rw [if_pos hl] at e
    cases e
    refine hs pn F T H σ ρ _ ρ1 st h1 _ fun vs B T1 H1 st1 nd off fr vis hc => ?_
    obtain ⟨v, w, z, rfl⟩ : ∃ v w z, vs = [v, w, z] := by
      have := hc.length
      match vs, this with
      | [v, w, z], _ => exact ⟨v, w, z, rfl⟩
    refine ⟨v, w, z, rfl, ?_⟩
    obtain ⟨B1, B', rfl, c1, c'⟩ := cels_split hc
    obtain ⟨B2, B3, rfl, c2, c3⟩ := cels_split c'
    have eF : FL F (B1 ++ (B2 ++ B3)) = FL (FL (FL F B3) B2) B1 := by rw [FL_app, FL_app]; exact FL_perm fun x => by simp only [List.mem_append]; exact ⟨fun h => by rcases h with h | h | h <;> simp [h], fun h => by rcases h with h | h | h <;> simp [h]⟩
    rw [eF] at st1 c1 c2 c3 vis
    have n1 := List.nodup_append.mp nd
    have n2 := List.nodup_append.mp n1.2.1
    obtain ⟨T2, st2, vis2⟩ := StOk.cel (F := FL (FL F B3) B2) hi hl.1 st1 n1.1 (fun x hx y => y.elim (fun y => y.elim (off x (List.mem_append_left _ hx)) fun y => n1.2.2 x hx x (List.mem_append_right _ y) rfl) fun y => n1.2.2 x hx x (List.mem_append_left _ y) rfl) c1
    have c2' := c2.mv vis2 fun x hx => (rfl : H1 x = H1 x)
    obtain ⟨T3, st3, vis3⟩ := StOk.cel (F := FL F B3) hj (by rw [List.length_set]; exact hl.2.1) st2 n2.1 (fun x hx y => y.elim (off x (List.mem_append_right _ (List.mem_append_left _ hx))) fun y => n2.2.2 x hx x y rfl) c2'
    have c3' := c3.mv (vis2.trans vis3) fun x hx => (rfl : H1 x = H1 x)
    obtain ⟨T4, st4, vis4⟩ := StOk.cel (F := F) hk (by rw [List.length_set, List.length_set]; exact hl.2.2) st3 n2.2.1 (fun x hx => off x (List.mem_append_right _ (List.mem_append_right _ hx))) c3'
    exact q _ T4 H1 st4 ⟨fr, ((vis.trans vis2).trans vis3).trans vis4⟩
  · rw [if_neg hl] at e; cases e
/-! the same where names are taken by comprehensions: a tuple is made and parted -/
theorem ss_unp3 {i j k : Nat} {ts : TA} {as : XWC} (hi : i ≠ 0) (hj : j ≠ 0) (hk : k ≠ 0) (hs : SWC ts as) : SS (tAsg (tTupF ts) (gTU K 3 (gCons (gName i) (gCons (gName j) (gCons (gName k) gNil))))) (sPar3 i j k as) := fun pn F T H σ ρ o D st e q => by
  obtain ⟨⟨cs, ρ1⟩, h1, e⟩ := bind_some e
  obtain ⟨⟨c, d, g⟩, h2, e⟩ := bind_some e
  have ec : cs = _ := three_eq h2
  subst ec
  by_cases hl : i < ρ1.length ∧ j < ρ1.length ∧ k < ρ1.length
  · rw [if_pos hl] at e
    cases e
    refine hs pn F T H σ ρ _ ρ1 st h1 _ fun vs B T1 H0 st0 nd off fr0 vis0 hc0 => ?_
    obtain ⟨v, w, z, rfl⟩ : ∃ v w z, vs = [v, w, z] := by
      have := hc0.length
      match vs, this with
      | [v, w, z], _ => exact ⟨v, w, z, rfl⟩
    refine ⟨by show 3 ≤ sizeLine; decide, fun p ob hp pl => .inl ⟨p, [v, w, z], rfl, .inl (.inr ⟨_, upd_same⟩), rfl, ?_⟩⟩
    have ex : Ex H0 (upd H0 p (fz ob [v, w, z])) := Ex.new hp
    have st1 := st0.ex ex
    have vis := vis0.trans (hid_ex (S := SF (FL F B) T1) ex)
    have hB : ∀ x ∈ B, upd H0 p (fz ob [v, w, z]) x = H0 x := fun x hx => by
      obtain ⟨ws, e⟩ := hc0.lst x hx
      rw [e, ex _ _ e]
    have hc := hc0.mv (hid_ex (S := SF (FL F B) T1) ex) hB
    have fr : ∀ x, F x → upd H0 p (fz ob [v, w, z]) x = H x := fun x hx => by
      rw [← fr0 x hx]
      cases e : H0 x with
      | none => exact absurd e (st0.al x (.inl hx))
      | some o => exact ex _ _ e
    obtain ⟨B1, B', rfl, c1, c'⟩ := cels_split hc
    obtain ⟨B2, B3, rfl, c2, c3⟩ := cels_split c'
    have eF : FL F (B1 ++ (B2 ++ B3)) = FL (FL (FL F B3) B2) B1 := by rw [FL_app, FL_app]; exact FL_perm fun x => by simp only [List.mem_append]; exact ⟨fun h => by rcases h with h | h | h <;> simp [h], fun h => by rcases h with h | h | h <;> simp [h]⟩
    rw [eF] at st1 c1 c2 c3 vis
    have n1 := List.nodup_append.mp nd
    have n2 := List.nodup_append.mp n1.2.1
    obtain ⟨T2, st2, vis2⟩ := StOk.cel (F := FL (FL F B3) B2) hi hl.1 st1 n1.1 (fun x hx y => y.elim (fun y => y.elim (off x (List.mem_append_left _ hx)) fun y => n1.2.2 x hx x (List.mem_append_right _ y) rfl) fun y => n1.2.2 x hx x (List.mem_append_left _ y) rfl) c1
    have c2' := c2.mv vis2 fun x hx => rfl
    obtain ⟨T3, st3, vis3⟩ := StOk.cel (F := FL F B3) hj (by rw [List.length_set]; exact hl.2.1) st2 n2.1 (fun x hx y => y.elim (off x (List.mem_append_right _ (List.mem_append_left _ hx))) fun y => n2.2.2 x hx x y rfl) c2'
    have c3' := c3.mv (vis2.trans vis3) fun x hx => rfl
    obtain ⟨T4, st4, vis4⟩ := StOk.cel (F := F) hk (by rw [List.length_set, List.length_set]; exact hl.2.2) st3 n2.2.1 (fun x hx => off x (List.mem_append_right _ (List.mem_append_right _ hx))) c3'
    exact ⟨v, [w, z], rfl, w, [z], rfl, z, [], rfl, rfl, q _ T4 _ st4 ⟨fr, ((vis.trans vis2).trans vis3).trans vis4⟩⟩
  · rw [if_neg hl] at e; cases e
theorem ss_unp2 {i j : Nat} {ts : TA} {as : XWC} (hi : i ≠ 0) (hj : j ≠ 0) (hs : SWC ts as) : SS (tAsg (tTupF ts) (gTU K 2 (gCons (gName i) (gCons (gName j) gNil)))) (sPar i j as) := fun pn F T H σ ρ o D st e q => by
  obtain ⟨⟨cs, ρ1⟩, h1, e⟩ := bind_some e
  obtain ⟨⟨c, d⟩, h2, e⟩ := bind_some e
  have ec : cs = _ := two_eq h2
  subst ec
  by_cases hl : i < ρ1.length ∧ j < ρ1.length
  · rw [if_pos hl] at e
    cases e
    refine hs pn F T H σ ρ _ ρ1 st h1 _ fun vs B T1 H0 st0 nd off fr0 vis0 hc0 => ?_
    obtain ⟨v, w, rfl⟩ : ∃ v w, vs = [v, w] := by
      have := hc0.length
      match vs, this with
      | [v, w], _ => exact ⟨v, w, rfl⟩
    refine ⟨by show 2 ≤ sizeLine; decide, fun p ob hp pl => .inl ⟨p, [v, w], rfl, .inl (.inr ⟨_, upd_same⟩), rfl, ?_⟩⟩
    have ex : Ex H0 (upd H0 p (fz ob [v, w])) := Ex.new hp
    have st1 := st0.ex ex
    have vis := vis0.trans (hid_ex (S := SF (FL F B) T1) ex)
    have hB : ∀ x ∈ B, upd H0 p (fz ob [v, w]) x = H0 x := fun x hx => by
      obtain ⟨ws, e⟩ := hc0.lst x hx
      rw [e, ex _ _ e]
    have hc := hc0.mv (hid_ex (S := SF (FL F B) T1) ex) hB
    have fr : ∀ x, F x → upd H0 p (fz ob [v, w]) x = H x := fun x hx => by
      rw [← fr0 x hx]
      cases e : H0 x with
      | none => exact absurd e (st0.al x (.inl hx))
      | some o => exact ex _ _ e
    obtain ⟨B1, B2, rfl, c1, c2⟩ := cels_split hc
    have eF : FL F (B1 ++ B2) = FL (FL F B2) B1 := by rw [FL_app]; exact FL_perm fun x => by simp [or_comm]
    rw [eF] at st1 c1 c2 vis
    have n1 := List.nodup_append.mp nd
    obtain ⟨T2, st2, vis2⟩ := StOk.cel (F := FL F B2) hi hl.1 st1 n1.1 (fun x hx y => y.elim (off x (List.mem_append_left _ hx)) fun y => n1.2.2 x hx x y rfl) c1
    have c2' := c2.mv vis2 fun x hx => rfl
    obtain ⟨T3, st3, vis3⟩ := StOk.cel (F := F) hj (by rw [List.length_set]; exact hl.2) st2 n1.2.1 (fun x hx => off x (List.mem_append_right _ hx)) c2'
    exact ⟨v, [w], rfl, w, [], rfl, rfl, q _ T3 _ st3 ⟨fr, (vis.trans vis2).trans vis3⟩⟩
  · rw [if_neg hl] at e; cases e
/-! ### e[::-1] -/
def backP : PD → Option PD
  | .list ds => some (.list ds.reverse)
  | .tuple ds => some (.tuple ds.reverse)
  | _ => none
def backL : PD → Option PD
  | .list ds => some (.list ds.reverse)
  | _ => none
theorem RpAll.rev {H : Hp} : ∀ {vs : List V} {ds : List PD}, RpAll H vs ds → RpAll H vs.reverse ds.reverse
  | _, _, .nil => .nil
  | _, _, .cons h r => by rw [List.reverse_cons, List.reverse_cons]; exact (RpAll.rev r).append (.cons h .nil)
theorem se_back {te : TE} {a : XE} (ha : SE te a) : SE (tBack K te) (xUn backP a) := fun ρ d h S σ H al en Q q => by
  obtain ⟨x, h1, h⟩ := bind_some h
  refine ha ρ x h1 S σ H al en _ fun v H1 e1 rv => ?_
  cases rv with
  | lst hh ra =>
    cases h
    exact ⟨_, _, rfl, .inl ⟨.inl (.inl (hid_le _ _ hh)), fun p hp => q _ _ (e1.trans (Ex.new hp)) (.lst (new_ok (al.ex e1) hp) (ra.rev.ex (hid_ex (Ex.new hp))))⟩⟩
  | tup hh pl ra =>
    cases h
    exact ⟨_, _, rfl, .inr ⟨.inl (.inr ⟨_, hid_le _ _ hh⟩), fun p o hp pl => q _ _ (e1.trans (Ex.new hp)) (.tup (new_ok (al.ex e1) hp) pl (ra.rev.ex (hid_ex (Ex.new hp))))⟩⟩
  | _ => cases h
theorem sef_back {te : TE} {a : XE} (ha : SE te a) : SEF (tBack K te) (xUn backL a) := fun ρ d h => by
  obtain ⟨x, h1, h⟩ := bind_some h
  cases x with
  | list ds =>
    cases h
    refine ⟨_, rfl, fun S σ H al en Q q => ha ρ _ h1 S σ H al en _ fun v H1 e1 rv => ?_⟩
    cases rv with
    | lst hh ra => exact ⟨_, _, rfl, .inl ⟨.inl (.inl (hid_le _ _ hh)), fun p hp => q p _ _ (e1.trans (Ex.new hp)) (ex_free e1 hp) upd_same (ra.rev.ex (hid_cons (Ex.new hp) hp))⟩⟩
  | _ => cases h
theorem sw_back {te : TE} {a : XW} (ha : SW te a) : SW (tBack K te) (wUn backP a) := fun pn F T H σ ρ d ρ' st e Q q => by
  obtain ⟨⟨x, ρ1⟩, h1, e⟩ := bind_some e
  obtain ⟨z, h3, e⟩ := bind_some e
  cases e
  refine ha pn F T H σ ρ x _ st h1 _ fun v T1 H1 st1 s1 rv => ?_
  cases rv with
  | lst hh ra =>
    cases h3
    exact ⟨_, _, rfl, .inl ⟨.inl (.inl (hid_le _ _ hh)), fun p hp => q _ T1 _ (st1.ex (Ex.new hp)) (s1.trans (Stp.ex st1.al (Ex.new hp))) (.lst (new_ok st1.als hp) (ra.rev.ex (hid_ex (Ex.new hp))))⟩⟩
  | tup hh pl ra =>
    cases h3
    exact ⟨_, _, rfl, .inr ⟨.inl (.inr ⟨_, hid_le _ _ hh⟩), fun p o hp pl => q _ T1 _ (st1.ex (Ex.new hp)) (s1.trans (Stp.ex st1.al (Ex.new hp))) (.tup (new_ok st1.als hp) pl (ra.rev.ex (hid_ex (Ex.new hp))))⟩⟩
  | _ => cases h3
/-! ### list(range(n)), tuple(range(n)) -/
def rgP : PD → Option (List PD)
  | .int n => if -(2 ^ 62) ≤ n ∧ n ≤ 100000 then some ((List.range n.toNat).map fun k => .int (k : Nat)) else none
  | _ => none
def rgL (d : PD) : Option PD := (rgP d).bind fun ds => some (.list ds)
def rgT (d : PD) : Option PD := (rgP d).bind fun ds => some (.tuple ds)
theorem rp_rg {H : Hp} {n : Int} : RpAll H (rgV 0 n) ((List.range n.toNat).map fun k => .int (k : Nat)) := by
  unfold rgV
  rw [Int.sub_zero]
  generalize List.range n.toNat = l
  induction l with
  | nil => exact .nil
  | cons k l ih =>
    rw [List.map_cons, List.map_cons, Int.zero_add]
    exact .cons (.int _) ih
theorem rg_ok {n : Int} (h : -(2 ^ 62) ≤ n ∧ n ≤ 100000) : RgOk 0 n := ⟨by omega, by omega, h.1, by omega, by omega⟩
theorem sef_rgL {ta : TE} {a : XE} (ha : SE ta a) : SEF (tLstRg (tRg1 ta)) (xUn rgL a) := fun ρ d h => by
  obtain ⟨x, h1, h⟩ := bind_some h
  obtain ⟨ds, h2, h⟩ := bind_some h
  cases h
  cases x with
  | int n =>
    have h2 : (if -(2 ^ 62) ≤ n ∧ n ≤ 100000 then some ((List.range n.toNat).map fun k => PyData.int (k : Nat)) else none) = some ds := h2
    by_cases c : -(2 ^ 62) ≤ n ∧ n ≤ 100000
    · rw [if_pos c] at h2
      cases h2
      refine ⟨_, rfl, fun S σ H al en Q q => ha ρ _ h1 S σ H al en _ fun v H1 e1 rv => ?_⟩
      cases rv
      exact ⟨n, rfl, rg_ok c, fun p hp => q p _ _ (e1.trans (Ex.new hp)) (ex_free e1 hp) upd_same rp_rg⟩
    · rw [if_neg c] at h2; cases h2
  | _ => cases h2
theorem se_rgT {ta : TE} {a : XE} (ha : SE ta a) : SE (tTupRgF (tRg1 ta)) (xUn rgT a) := fun ρ d h S σ H al en Q q => by
  obtain ⟨x, h1, h⟩ := bind_some h
  obtain ⟨ds, h2, h⟩ := bind_some h
  cases h
  refine ha ρ _ h1 S σ H al en _ fun v H1 e1 rv => ?_
  cases rv with
  | int n =>
    have h2 : (if -(2 ^ 62) ≤ n ∧ n ≤ 100000 then some ((List.range n.toNat).map fun k => PyData.int (k : Nat)) else none) = some ds := h2
    by_cases c : -(2 ^ 62) ≤ n ∧ n ≤ 100000
    · rw [if_pos c] at h2
      cases h2
      exact ⟨n, rfl, rg_ok c, fun p o hp pl => q _ _ (e1.trans (Ex.new hp)) (.tup (new_ok (al.ex e1) hp) pl rp_rg)⟩
    · rw [if_neg c] at h2; cases h2
  | _ => cases h2
/-! ### t * k -/
def mulU : PD → PD → Option PD
  | .tuple xs, .int j => if xs ≠ [] ∧ 0 ≤ j ∧ j ≤ 1000 ∧ xs.length ≤ 1000 then some (.tuple (List.replicate j.toNat xs).flatten) else none
  | x, y => mulP x y
def rMulV (K : PySem.W.Frag) : R2 := fun x y H Q => rMulU x y H Q ∨ rRepF K x y H Q
theorem op_mulV {X : Cx} : OpR X (binaryOp .Mult) (rMulV X.K) := OpR.or op_mulU op_repF
theorem so_mulV : SO (rMulV K) mulU := fun x y z h S H vx vy al rx ry Q q => by
  cases rx with
  | @tup a o xs ds ha pa ra =>
    cases ry with
    | int j =>
      have h : (if ds ≠ [] ∧ 0 ≤ j ∧ j ≤ 1000 ∧ ds.length ≤ 1000 then some (PyData.tuple (List.replicate j.toNat ds).flatten) else none) = some z := h
      by_cases c : ds ≠ [] ∧ 0 ≤ j ∧ j ≤ 1000 ∧ ds.length ≤ 1000
      · rw [if_pos c] at h
        cases h
        refine .inr ⟨a, j, xs, rfl, rfl, .inl (.inr ⟨_, hid_le _ _ ha⟩), fun e => ?_, c.2.1, c.2.2.1, by rw [ra.length]; exact c.2.2.2, fun e => ?_, fun e p o' hp pl => q _ _ (Ex.new hp) (.tup (new_ok al hp) pl ((ra.rep j.toNat).ex (hid_ex (Ex.new hp))))⟩
        · subst e
          cases ra
          exact c.1 rfl
        · subst e
          refine q _ H (Ex.refl H) ?_
          have e : (List.replicate (1 : Int).toNat ds).flatten = ds := by simp
          rw [e]
          exact .tup ha pa ra
      · rw [if_neg c] at h; cases h
    | _ => cases h
  | int i => exact .inl (so_mul _ _ z (by cases y <;> exact h) S H _ vy al (.int i) ry Q q)
  | lst ha ra => exact .inl (so_mul _ _ z (by cases y <;> exact h) S H _ vy al (.lst ha ra) ry Q q)
  | _ => cases y <;> cases h
/-! ### min and max of three -/
def minU : List PD → Option PD
  | [.int i, .int j, .int k] => some (.int (if k < (if j < i then j else i) then k else (if j < i then j else i)))
  | xs => minP xs
def rMinV (K : PySem.W.Frag) : List V → Hp → VK → Prop := fun xs H Q => rMinU K xs H Q ∨ rNuC3 nuMin3 xs H Q
theorem cr_minV {X : Cx} (hc : X.calm = true) : CallR X (.builtin "min") (rMinV X.K) := CallR.or (cr_minU hc) (call_min3Nu hc)
theorem sc_minV : SC (rMinV K) minU := fun xs z h S H vs al rs Q q => by
  by_cases c : ∃ i j k, xs = [.int i, .int j, .int k]
  · obtain ⟨i, j, k, rfl⟩ := c
    cases h
    cases rs with
    | cons r1 rs =>
      cases rs with
      | cons r2 rs =>
        cases rs with
        | cons r3 rs =>
          cases rs
          cases r1; cases r2; cases r3
          refine .inr ⟨.int i, .int j, .int k, .int (if k < (if j < i then j else i) then k else (if j < i then j else i)), rfl, ?_, q _ H (Ex.refl H) (.int _)⟩
          unfold nuMin3 nuMin2
          by_cases c1 : j < i
          · by_cases c2 : k < j <;> simp [nuLt, nuCB, c1, c2]
          · by_cases c2 : k < i <;> simp [nuLt, nuCB, c1, c2]
  · refine .inl (sc_min xs z ?_ S H vs al rs Q q)
    unfold minU at h
    split at h
    · exact absurd ⟨_, _, _, rfl⟩ c
    · exact h
end
end Uv

namespace Uv
open PySem PySem.Spec PyProof.Rows L2
open Evl (Ex)
/-! ### a > b of sequences -/
def rGtD (K : PySem.W.Frag) : R2 := fun x y H Q => ∃ d e, Dp K H x d ∧ Dp K H y e ∧ SeqAt.shaped d = true ∧ PySem.W.alike d e = true ∧ d ≠ .none ∧ Q (.bl (PySem.W.dataLt e d)) H
theorem shaped_dep {d : PyData} (h : SeqAt.shaped d = true) : d.depth ≤ 64 := by
  unfold SeqAt.shaped at h
  rw [Bool.and_eq_true] at h
  exact of_decide_eq_true h.2
theorem op_gtD {X : Cx} (hu : X.A.units + 64 < cLine) : OpR X (compareOp .Gt) (rGtD X.K) := by
  intro pins s σ H x y v u Q I rx ry h
  obtain ⟨d, e, hd, he, sd, al, hn, q⟩ := h
  obtain ⟨as, r1⟩ := Dp.reads I d x v hd rx
  obtain ⟨bs, r2⟩ := Dp.reads I e y u he ry
  have := shaped_dep sd
  exact PySem.W.gt_data r1 r2 al hn (by omega) ⟨.bl _, H, I, rfl, q⟩
variable [kk : KK]
def rGtU (K : PySem.W.Frag) : R2 := fun x y H Q => oGt x y H Q ∨ rGtD K x y H Q
theorem op_gtU {X : Cx} (hu : X.A.units + 64 < cLine) : OpR X (compareOp .Gt) (rGtU X.K) := OpR.or op_gt (op_gtD hu)
def gtU : PD → PD → Option PD
  | .int i, .int j => some (.bool (decide (j < i)))
  | x, y => if SeqAt.shaped x = true ∧ SeqAt.shaped y = true ∧ PySem.W.alike x y = true ∧ isNone x = false then some (.bool (PySem.W.dataLt y x)) else none
omit kk in
theorem gtU_eq {x y z : PD} (h : gtU x y = some z) : (∃ i j, x = .int i ∧ y = .int j ∧ z = .bool (decide (j < i))) ∨ (SeqAt.shaped x = true ∧ SeqAt.shaped y = true ∧ PySem.W.alike x y = true ∧ isNone x = false ∧ z = .bool (PySem.W.dataLt y x)) := by
  unfold gtU at h
  split at h
  · cases h
    exact .inl ⟨_, _, rfl, rfl, rfl⟩
  · split at h
    · rename_i c
      cases h
      exact .inr ⟨c.1, c.2.1, c.2.2.1, c.2.2.2, rfl⟩
    · cases h
theorem so_gtU : SO (rGtU K) gtU := fun x y z h S H vx vy al rx ry Q q => by
  rcases gtU_eq h with ⟨i, j, rfl, rfl, rfl⟩ | ⟨c1, c2, c3, c4, rfl⟩
  · cases rx; cases ry
    exact .inl ⟨i, j, rfl, rfl, q _ H (Ex.refl H) (.bl _)⟩
  · refine .inr ⟨x, y, (rx.ex hid_le).dp (nodict c1), (ry.ex hid_le).dp (nodict c2), c1, c3, ?_, q _ H (Ex.refl H) (.bl _)⟩
    rintro rfl
    exact nomatch c4
/-! lists of whole numbers -/
def lexI : List Int → List Int → Bool
  | [], [] => false
  | [], _ :: _ => true
  | _ :: _, [] => false
  | a :: l, b :: m => if a = b then lexI l m else decide (a < b)
omit kk in
theorem alike_ints {α β : Type} {f : α → Int} {g : β → Int} : ∀ (l : List α) (m : List β), PySem.W.alikeAll (l.map fun x => PyData.int (f x)) (m.map fun x => PyData.int (g x)) = true
  | [], _ => by simp [PySem.W.alikeAll]
  | _ :: _, [] => by simp [PySem.W.alikeAll]
  | a :: l, b :: m => by
    rw [List.map_cons, List.map_cons, PySem.W.alikeAll, alike_ints l m]
    rfl
omit kk in
theorem toks_ints : ∀ (l m : List Int), PyProof.Rows.lexLt itemOrd (PySem.W.keyToksAll (l.map PyData.int)) (PySem.W.keyToksAll (m.map PyData.int)) = lexI l m
  | [], [] => rfl
  | [], _ :: _ => rfl
  | _ :: _, [] => rfl
  | a :: l, b :: m => by
    have ih := toks_ints l m
    rw [List.map_cons, List.map_cons, PySem.W.keyToksAll, PySem.W.keyToksAll, PySem.W.keyToks, PySem.W.keyToks]
    show PyProof.Rows.lexLt itemOrd (.inl 1 :: (.inl a :: PySem.W.keyToksAll (l.map PyData.int))) (.inl 1 :: (.inl b :: PySem.W.keyToksAll (m.map PyData.int))) = _
    rw [lex_cons, lex_cons, ih]
    show ((decide ((1 : Int) < 1)) || (!(decide ((1 : Int) < 1)) && (decide (a < b) || (!(decide (b < a)) && lexI l m)))) = _
    show _ = if a = b then lexI l m else decide (a < b)
    by_cases c : a = b
    · subst c; simp
    · rw [if_neg c]
      by_cases c2 : a < b
      · simp [c2]
      · have : b < a := by omega
        simp [c2, this]
end Uv

namespace Uv
open PySem PySem.Spec PyProof.Rows L2
open Evl (Ex)
/-! ### zip of three tuples: its objects lie one behind the other, the tuples ahead of them -/
abbrev Tri (h : Heap) (T : Addr) (a b c : Value) : Prop := h.get? T = some { cls := .type "tuple", data := .seq #[a, b, c] }
structure Z3 (h : Heap) (n l1 l2 l3 : Nat) (k : Nat) : Prop where
  z : IsZip h (n + 5) (n + 3) (n + 4) .none
  ti : Tri h (n + 3) (.ref n) (.ref (n + 1)) (.ref (n + 2))
  to : ∃ a b c, Tri h (n + 4) a b c
  t1 : h.IsTupleIter n l1 k
  t2 : h.IsTupleIter (n + 1) l2 k
  t3 : h.IsTupleIter (n + 2) l3 k
section
variable {prog : Program} {w : World} {A : Around} {E : Value → Shared → Prop} {s : Shared}
theorem tri_set {T : Addr} {a b c x : Value} {k : Nat} {Q : Unit → Shared → Prop} (hT : Tri s.heap T a b c)
    (h : ∀ h', h'.get? T = some { cls := .type "tuple", data := .seq ((#[a, b, c] : Array Value).setIfInBounds k x) } → Heap.SameBut T s.heap h' → Q () { s with heap := h' }) :
    wpAny (model prog w) A (updateSeq T (·.setIfInBounds k x)) Q E s :=
  wpAny_updateSeq hT rfl (h _ (by rw [Heap.get?_update_self _ hT rfl]; simp [Obj.mapSeq]) (Heap.SameBut.update ..))
theorem same_up {a c : Addr} {o : Obj} {h h' : Heap} (k : Heap.SameBut a h h') (hc : c ≠ a) (e : h.get? c = some o) : h'.get? c = some o := k.extBut c o hc e
theorem z3_item {n l1 l2 l3 : Nat} {k : Nat} {xs ys ws : Array Value} {x y v : Value} {Q : Value → Shared → Prop} (st : Z3 s.heap n l1 l2 l3 k) (n1 : l1 < n) (n2 : l2 < n) (n3 : l3 < n) (p1 : s.heap.IsTuple l1 xs) (p2 : s.heap.IsTuple l2 ys) (p3 : s.heap.IsTuple l3 ws) (hx : xs[k]? = some x) (hy : ys[k]? = some y) (hv : ws[k]? = some v)
    (hQ : ∀ h', IsZip h' (n + 5) (n + 3) (n + 4) (rawInt s.heap.objs.size) → Tri h' (n + 4) x y v → h'.IsTupleIter n l1 (k + 1) → h'.IsTupleIter (n + 1) l2 (k + 1) → h'.IsTupleIter (n + 2) l3 (k + 1) → Tri h' s.heap.objs.size x y v → h'.objs.size = s.heap.objs.size + 1 →
      (∀ c o, c ≠ n + 5 → c ≠ n + 4 → c ≠ n → c ≠ n + 1 → c ≠ n + 2 → s.heap.get? c = some o → h'.get? c = some o) → Q (.ref s.heap.objs.size) { s with heap := h' }) :
    wpAny (model prog w) A (Builtin.«zip.__next__» ⟨[.ref (n + 5)], []⟩) (fun fin s' => ∃ v, fin = .done (.ret v) ∧ Q v s') E s := by
  obtain ⟨hz, hti, ⟨a, b, c, hto⟩, q1, q2, q3⟩ := st
  show wpAny _ _ (field (.ref (n + 5)) 2 >>= _) _ _ _
  refine wpAny_bind (wpAny_field hz rfl (x := .bool false) rfl ?_)
  show wpAny _ _ (field (.ref (n + 5)) 3 >>= _) _ _ _
  refine wpAny_bind (wpAny_field hz rfl (x := .ref (n + 3)) rfl (wpAny_bind (wpAny_seqItems hti rfl ?_)))
  show wpAny _ _ (Builtin.SmallTypes.ownedTupleIsFree (.ref (n + 5)) >>= _) _ _ _
  refine wpAny_bind ?_
  unfold Builtin.SmallTypes.ownedTupleIsFree
  refine wpAny_bind (wpAny_field hz rfl (x := .none) rfl (wpAny_pure ?_))
  simp only [if_true]
  refine wpAny_bind (wpAny_rule (wpAny_bind (wpAny_field hz rfl (x := .ref (n + 4)) rfl ?_)))
  refine wpAny_bind (wpAny_setField_rec hz (by simp) fun g1 z1 k1 => wpAny_bind ?_)
  replace z1 : IsZip g1 (n + 5) (n + 3) (n + 4) .ellipsis := z1
  simp only [List.zipIdx_cons, List.zipIdx_nil, List.forIn_cons, List.forIn_nil]
  -- the first
  refine wpAny_bind (wpAny_bind (wpAny_onRaise (?_ : wpAny _ _ (Builtin.SmallTypes.nextOf (.ref n) >>= _) _ _ _)))
  refine wpAny_bind (RZ.nextOf_tuple_item (q1.extBut k1.extBut (by show @Ne Nat _ _; omega)) (p1.extBut k1.extBut (by show @Ne Nat _ _; omega)) hx fun g2 r1 k2 => wpAny_pure ?_)
  have o2 : Tri g2 (n + 4) a b c := same_up k2 (by show @Ne Nat _ _; omega) (same_up k1 (by show @Ne Nat _ _; omega) hto)
  refine wpAny_bind (wpAny_seqItems o2 rfl (wpAny_bind (tri_set o2 fun g3 o3 k3 => wpAny_bind (wpAny_letGo (wpAny_pure ?_)))))
  replace o3 : Tri g3 (n + 4) x b c := o3
  -- the second
  refine wpAny_bind (wpAny_bind (wpAny_onRaise (?_ : wpAny _ _ (Builtin.SmallTypes.nextOf (.ref (n + 1)) >>= _) _ _ _)))
  refine wpAny_bind (RZ.nextOf_tuple_item (((q2.extBut k1.extBut (by show @Ne Nat _ _; omega)).extBut k2.extBut (by show @Ne Nat _ _; omega)).extBut k3.extBut (by show @Ne Nat _ _; omega)) (((p2.extBut k1.extBut (by show @Ne Nat _ _; omega)).extBut k2.extBut (by show @Ne Nat _ _; omega)).extBut k3.extBut (by show @Ne Nat _ _; omega)) hy fun g4 r2 k4 => wpAny_pure ?_)
  have o4 : Tri g4 (n + 4) x b c := same_up k4 (by show @Ne Nat _ _; omega) o3
  refine wpAny_bind (wpAny_seqItems o4 rfl (wpAny_bind (tri_set o4 fun g5 o5 k5 => wpAny_bind (wpAny_letGo (wpAny_pure ?_)))))
  replace o5 : Tri g5 (n + 4) x y c := o5
  -- the third
  refine wpAny_bind (wpAny_bind (wpAny_onRaise (?_ : wpAny _ _ (Builtin.SmallTypes.nextOf (.ref (n + 2)) >>= _) _ _ _)))
  refine wpAny_bind (RZ.nextOf_tuple_item (((((q3.extBut k1.extBut (by show @Ne Nat _ _; omega)).extBut k2.extBut (by show @Ne Nat _ _; omega)).extBut k3.extBut (by show @Ne Nat _ _; omega)).extBut k4.extBut (by show @Ne Nat _ _; omega)).extBut k5.extBut (by show @Ne Nat _ _; omega)) (((((p3.extBut k1.extBut (by show @Ne Nat _ _; omega)).extBut k2.extBut (by show @Ne Nat _ _; omega)).extBut k3.extBut (by show @Ne Nat _ _; omega)).extBut k4.extBut (by show @Ne Nat _ _; omega)).extBut k5.extBut (by show @Ne Nat _ _; omega)) hv fun g6 r3 k6 => wpAny_pure ?_)
  have o6 : Tri g6 (n + 4) x y c := same_up k6 (by show @Ne Nat _ _; omega) o5
  refine wpAny_bind (wpAny_seqItems o6 rfl (wpAny_bind (tri_set o6 fun g7 o7 k7 => wpAny_bind (wpAny_letGo (wpAny_pure (wpAny_pure ?_))))))
  replace o7 : Tri g7 (n + 4) x y v := o7
  -- what comes of it
  refine wpAny_bind (wpAny_seqItems o7 rfl (wpAny_bind (wpAny_newTuple ?_)))
  have sz : g7.objs.size = s.heap.objs.size := by rw [k7.1, k6.1, k5.1, k4.1, k3.1, k2.1, k1.1]
  have z7 : IsZip g7 (n + 5) (n + 3) (n + 4) .ellipsis := same_up k7 (by show @Ne Nat _ _; omega) (same_up k6 (by show @Ne Nat _ _; omega) (same_up k5 (by show @Ne Nat _ _; omega) (same_up k4 (by show @Ne Nat _ _; omega) (same_up k3 (by show @Ne Nat _ _; omega) (same_up k2 (by show @Ne Nat _ _; omega) z1)))))
  have kp : ∀ c o, c ≠ n + 5 → c ≠ n + 4 → c ≠ n → c ≠ n + 1 → c ≠ n + 2 → s.heap.get? c = some o → g7.get? c = some o := fun c o c1 c2 c3 c4 c5 e =>
    same_up k7 c2 (same_up k6 c5 (same_up k5 c2 (same_up k4 c4 (same_up k3 c2 (same_up k2 c3 (same_up k1 c1 e))))))
  have i1 : g7.IsTupleIter n l1 (k + 1) := ((((r1.extBut k3.extBut (by show @Ne Nat _ _; omega)).extBut k4.extBut (by show @Ne Nat _ _; omega)).extBut k5.extBut (by show @Ne Nat _ _; omega)).extBut k6.extBut (by show @Ne Nat _ _; omega)).extBut k7.extBut (by show @Ne Nat _ _; omega)
  have i2 : g7.IsTupleIter (n + 1) l2 (k + 1) := ((r2.extBut k5.extBut (by show @Ne Nat _ _; omega)).extBut k6.extBut (by show @Ne Nat _ _; omega)).extBut k7.extBut (by show @Ne Nat _ _; omega)
  have i3 : g7.IsTupleIter (n + 2) l3 (k + 1) := r3.extBut k7.extBut (by show @Ne Nat _ _; omega)
  have lz : n + 5 < g7.objs.size := Heap.lt_size z7
  refine wpAny_bind (?_ : wpAny _ _ (Builtin.SmallTypes.ownedTupleHandOut (.ref (n + 5)) (.ref g7.objs.size)) _ _ _)
  unfold Builtin.SmallTypes.ownedTupleHandOut
  have z8 : IsZip (g7.push { cls := .type "tuple", data := .seq #[x, y, v] }) (n + 5) (n + 3) (n + 4) .ellipsis := Heap.get?_push_of_some _ z7
  refine wpAny_bind (wpAny_setField_rec z8 (by simp) fun g9 z9 k9 => ?_)
  replace z9 : IsZip g9 (n + 5) (n + 3) (n + 4) (rawInt g7.objs.size) := z9
  refine wpAny_setField_rec z9 (by simp) fun g10 z10 k10 => ?_
  replace z10 : IsZip g10 (n + 5) (n + 3) (n + 4) (rawInt g7.objs.size) := z10
  have up : ∀ c o, c ≠ n + 5 → g7.get? c = some o → g10.get? c = some o := fun c o c1 e => same_up k10 c1 (same_up k9 c1 (Heap.get?_push_of_some _ e))
  have t10 : Tri g10 g7.objs.size x y v := same_up k10 (by show @Ne Nat _ _; omega) (same_up k9 (by show @Ne Nat _ _; omega) (Heap.get?_push_size _ rfl))
  have s10 : g10.objs.size = g7.objs.size + 1 := by rw [k10.1, k9.1, Heap.size_push]
  rw [sz] at z10 t10 s10
  refine wpAny_pure ⟨_, rfl, (?_ : Q (.ref g7.objs.size) _)⟩
  rw [sz]
  exact hQ g10 z10 (up _ _ (by show @Ne Nat _ _; omega) o7) (i1.at fun o e => up _ o (by show @Ne Nat _ _; omega) e) (i2.at fun o e => up _ o (by show @Ne Nat _ _; omega) e) (i3.at fun o e => up _ o (by show @Ne Nat _ _; omega) e) t10 s10 fun c o c1 c2 c3 c4 c5 e => up c o c1 (kp c o c1 c2 c3 c4 c5 e)
theorem z3_end {n l1 l2 l3 : Nat} {k : Nat} {xs ys ws : Array Value} {Q : Fin → Shared → Prop} (hh : A.handled = none) (st : Z3 s.heap n l1 l2 l3 k) (n1 : l1 < n) (n2 : l2 < n) (n3 : l3 < n) (p1 : s.heap.IsTuple l1 xs) (p2 : s.heap.IsTuple l2 ys) (p3 : s.heap.IsTuple l3 ws) (fin : xs[k]? = none ∨ ys[k]? = none ∨ ws[k]? = none)
    (hE : ∀ h' e, (∀ c o, c ≠ n + 5 → c ≠ n + 4 → c ≠ n → c ≠ n + 1 → c ≠ n + 2 → s.heap.get? c = some o → h'.get? c = some o) → (∃ o, h'.get? e = some o ∧ o.cls = .type "StopIteration") → E (.ref e) { s with heap := h' }) :
    wpAny (model prog w) A (Builtin.«zip.__next__» ⟨[.ref (n + 5)], []⟩) Q E s := by
  obtain ⟨hz, hti, ⟨a, b, c, hto⟩, q1, q2, q3⟩ := st
  show wpAny _ _ (field (.ref (n + 5)) 2 >>= _) _ _ _
  refine wpAny_bind (wpAny_field hz rfl (x := .bool false) rfl ?_)
  show wpAny _ _ (field (.ref (n + 5)) 3 >>= _) _ _ _
  refine wpAny_bind (wpAny_field hz rfl (x := .ref (n + 3)) rfl (wpAny_bind (wpAny_seqItems hti rfl ?_)))
  show wpAny _ _ (Builtin.SmallTypes.ownedTupleIsFree (.ref (n + 5)) >>= _) _ _ _
  refine wpAny_bind ?_
  unfold Builtin.SmallTypes.ownedTupleIsFree
  refine wpAny_bind (wpAny_field hz rfl (x := .none) rfl (wpAny_pure ?_))
  simp only [if_true]
  refine wpAny_bind (wpAny_rule (wpAny_bind (wpAny_field hz rfl (x := .ref (n + 4)) rfl ?_)))
  refine wpAny_bind (wpAny_setField_rec hz (by simp) fun g1 z1 k1 => wpAny_bind ?_)
  replace z1 : IsZip g1 (n + 5) (n + 3) (n + 4) .ellipsis := z1
  -- where one of them is at its end
  have stop : ∀ {g g' : Heap} {e : Addr}, IsZip g (n + 5) (n + 3) (n + 4) .ellipsis → (∃ o, g.get? e = some o ∧ o.cls = .type "StopIteration") → (∀ c o, c ≠ n + 5 → c ≠ n + 4 → c ≠ n → c ≠ n + 1 → c ≠ n + 2 → s.heap.get? c = some o → g.get? c = some o) → wpAny (model prog w) A (setField (.ref (n + 5)) 0 .none) (fun _ s' => E (.ref e) s') E { s with heap := g } := fun {g g' e} hg he keep => by
    obtain ⟨o, ho, hc⟩ := he
    have ne : e ≠ n + 5 := fun q => by
      subst q
      rw [hg] at ho
      cases ho
      simp at hc
    exact wpAny_setField_rec (s := { s with heap := g }) hg (by simp) fun g' _ k' => hE g' e (fun c o c1 c2 c3 c4 c5 q => same_up k' c1 (keep c o c1 c2 c3 c4 c5 q)) ⟨o, same_up k' ne ho, hc⟩
  simp only [List.zipIdx_cons, List.zipIdx_nil, List.forIn_cons, List.forIn_nil]
  refine wpAny_bind (wpAny_bind (wpAny_onRaise (?_ : wpAny _ _ (Builtin.SmallTypes.nextOf (.ref n) >>= _) _ _ _)))
  cases hx : xs[k]? with
  | none =>
    refine wpAny_bind (RZ.nextOf_tuple_end hh (q1.extBut k1.extBut (by show @Ne Nat _ _; omega)) (p1.extBut k1.extBut (by show @Ne Nat _ _; omega)) hx fun g2 e k2 he => ?_)
    exact stop (g' := g2) (k2 _ _ (by show @Ne Nat _ _; omega) z1) he fun c o c1 c2 c3 c4 c5 q => k2 _ _ c3 (same_up k1 c1 q)
  | some x =>
    refine wpAny_bind (RZ.nextOf_tuple_item (q1.extBut k1.extBut (by show @Ne Nat _ _; omega)) (p1.extBut k1.extBut (by show @Ne Nat _ _; omega)) hx fun g2 r1 k2 => wpAny_pure ?_)
    have o2 : Tri g2 (n + 4) a b c := same_up k2 (by show @Ne Nat _ _; omega) (same_up k1 (by show @Ne Nat _ _; omega) hto)
    refine wpAny_bind (wpAny_seqItems o2 rfl (wpAny_bind (tri_set o2 fun g3 o3 k3 => wpAny_bind (wpAny_letGo (wpAny_pure ?_)))))
    replace o3 : Tri g3 (n + 4) x b c := o3
    have z3 : IsZip g3 (n + 5) (n + 3) (n + 4) .ellipsis := same_up k3 (by show @Ne Nat _ _; omega) (same_up k2 (by show @Ne Nat _ _; omega) z1)
    refine wpAny_bind (wpAny_bind (wpAny_onRaise (?_ : wpAny _ _ (Builtin.SmallTypes.nextOf (.ref (n + 1)) >>= _) _ _ _)))
    have q2' := ((q2.extBut k1.extBut (by show @Ne Nat _ _; omega)).extBut k2.extBut (by show @Ne Nat _ _; omega)).extBut k3.extBut (by show @Ne Nat _ _; omega)
    have p2' := ((p2.extBut k1.extBut (by show @Ne Nat _ _; omega)).extBut k2.extBut (by show @Ne Nat _ _; omega)).extBut k3.extBut (by show @Ne Nat _ _; omega)
    cases hy : ys[k]? with
    | none =>
      refine wpAny_bind (RZ.nextOf_tuple_end hh q2' p2' hy fun g4 e k4 he => ?_)
      exact stop (g' := g4) (k4 _ _ (by show @Ne Nat _ _; omega) z3) he fun c o c1 c2 c3 c4 c5 q => k4 _ _ c4 (same_up k3 c2 (same_up k2 c3 (same_up k1 c1 q)))
    | some y =>
      have hv : ws[k]? = none := by
        rcases fin with q | q | q
        · rw [hx] at q; cases q
        · rw [hy] at q; cases q
        · exact q
      refine wpAny_bind (RZ.nextOf_tuple_item q2' p2' hy fun g4 r2 k4 => wpAny_pure ?_)
      have o4 : Tri g4 (n + 4) x b c := same_up k4 (by show @Ne Nat _ _; omega) o3
      refine wpAny_bind (wpAny_seqItems o4 rfl (wpAny_bind (tri_set o4 fun g5 o5 k5 => wpAny_bind (wpAny_letGo (wpAny_pure ?_)))))
      have z5 : IsZip g5 (n + 5) (n + 3) (n + 4) .ellipsis := same_up k5 (by show @Ne Nat _ _; omega) (same_up k4 (by show @Ne Nat _ _; omega) z3)
      refine wpAny_bind (wpAny_bind (wpAny_onRaise (?_ : wpAny _ _ (Builtin.SmallTypes.nextOf (.ref (n + 2)) >>= _) _ _ _)))
      refine wpAny_bind (RZ.nextOf_tuple_end hh (((((q3.extBut k1.extBut (by show @Ne Nat _ _; omega)).extBut k2.extBut (by show @Ne Nat _ _; omega)).extBut k3.extBut (by show @Ne Nat _ _; omega)).extBut k4.extBut (by show @Ne Nat _ _; omega)).extBut k5.extBut (by show @Ne Nat _ _; omega)) (((((p3.extBut k1.extBut (by show @Ne Nat _ _; omega)).extBut k2.extBut (by show @Ne Nat _ _; omega)).extBut k3.extBut (by show @Ne Nat _ _; omega)).extBut k4.extBut (by show @Ne Nat _ _; omega)).extBut k5.extBut (by show @Ne Nat _ _; omega)) hv fun g6 e k6 he => ?_)
      exact stop (g' := g6) (k6 _ _ (by show @Ne Nat _ _; omega) z5) he fun c o c1 c2 c3 c4 c5 q => k6 _ _ c5 (same_up k5 c2 (same_up k4 c4 (same_up k3 c2 (same_up k2 c3 (same_up k1 c1 q)))))
theorem next3_item {n l1 l2 l3 : Nat} {k : Nat} {xs ys ws : Array Value} {x y v : Value} {Q : Option Value → Shared → Prop} (st : Z3 s.heap n l1 l2 l3 k) (n1 : l1 < n) (n2 : l2 < n) (n3 : l3 < n) (p1 : s.heap.IsTuple l1 xs) (p2 : s.heap.IsTuple l2 ys) (p3 : s.heap.IsTuple l3 ws) (hx : xs[k]? = some x) (hy : ys[k]? = some y) (hv : ws[k]? = some v)
    (hQ : ∀ h', IsZip h' (n + 5) (n + 3) (n + 4) (rawInt s.heap.objs.size) → Tri h' (n + 4) x y v → h'.IsTupleIter n l1 (k + 1) → h'.IsTupleIter (n + 1) l2 (k + 1) → h'.IsTupleIter (n + 2) l3 (k + 1) → Tri h' s.heap.objs.size x y v → h'.objs.size = s.heap.objs.size + 1 →
      (∀ c o, c ≠ n + 5 → c ≠ n + 4 → c ≠ n → c ≠ n + 1 → c ≠ n + 2 → s.heap.get? c = some o → h'.get? c = some o) → Q (some (.ref s.heap.objs.size)) { s with heap := h' }) :
    wpAny (model prog w) A (pyNext (.ref (n + 5))) Q E s := by
  have ty : s.TypeIs (.ref (n + 5)) "zip" := ⟨_, st.z, rfl⟩
  unfold pyNext
  exact wpAny_bind (wpAny_attempt (wpAny_callSpecial?_slot (name := Str.ofString "__next__") ty F.slot_zip_next (wpAny_call_entry F.slot_zip_next ty F.entry_zip_next
    (z3_item st n1 n2 n3 p1 p2 p3 hx hy hv fun h' b1 b2 b3 b4 b5 b6 b7 b8 => wpAny_pure (hQ h' b1 b2 b3 b4 b5 b6 b7 b8)) (F.args_zip_next_1 _))))
theorem next3_end {n l1 l2 l3 : Nat} {k : Nat} {xs ys ws : Array Value} {Q : Option Value → Shared → Prop} (hh : A.handled = none) (st : Z3 s.heap n l1 l2 l3 k) (n1 : l1 < n) (n2 : l2 < n) (n3 : l3 < n) (p1 : s.heap.IsTuple l1 xs) (p2 : s.heap.IsTuple l2 ys) (p3 : s.heap.IsTuple l3 ws) (fin : xs[k]? = none ∨ ys[k]? = none ∨ ws[k]? = none)
    (hQ : ∀ h', (∀ c o, c ≠ n + 5 → c ≠ n + 4 → c ≠ n → c ≠ n + 1 → c ≠ n + 2 → s.heap.get? c = some o → h'.get? c = some o) → Q none { s with heap := h' }) :
    wpAny (model prog w) A (pyNext (.ref (n + 5))) Q E s := by
  have ty : s.TypeIs (.ref (n + 5)) "zip" := ⟨_, st.z, rfl⟩
  unfold pyNext
  refine wpAny_bind (wpAny_attempt (wpAny_callSpecial?_slot (name := Str.ofString "__next__") ty F.slot_zip_next (wpAny_call_entry F.slot_zip_next ty F.entry_zip_next (z3_end hh st n1 n2 n3 p1 p2 p3 fin fun h' e keep he => ?_) (F.args_zip_next_1 _))))
  obtain ⟨o, ho, hc⟩ := he
  exact wpAny_bind (wpAny_isInstance (T := "StopIteration") (b := true) ⟨o, ho, hc⟩ isSubtype_stop (wpAny_pure (hQ _ keep)))
end
/-! how it comes to be -/
theorem z3_type (a b c : Value) : checkTypeCall "zip" ⟨[a, b, c], []⟩ = pure () := by kernel_rfl
theorem z3_new (a b c : Value) : checkBuiltinCall "zip.__new__" ⟨[.type "zip", a, b, c], []⟩ = pure () := by kernel_rfl
theorem z3_init (a b c d : Value) : argsOk "object.__init__" ⟨[a, b, c, d], []⟩ := by
  unfold argsOk
  rw [signature?_of (id := "object.__init__") (n := ['_', '_', 't', 'i', 'n', 'i', '_', '_']) (o := ['t', 'c', 'e', 'j', 'b', 'o']) (by kernel_rfl) F.owner_object]
  kernel_rfl
abbrev itO (l : Addr) : Obj := { cls := .type "tuple_iterator", data := .fields #[.ref l, .int 0 0] }
abbrev lay1 (h : Heap) (l1 : Addr) : Heap := h.push (itO l1)
abbrev lay2 (h : Heap) (l1 l2 : Addr) : Heap := (lay1 h l1).push (itO l2)
abbrev lay3 (h : Heap) (l1 l2 l3 : Addr) : Heap := (lay2 h l1 l2).push (itO l3)
abbrev lay4 (h : Heap) (l1 l2 l3 : Addr) : Heap := (lay3 h l1 l2 l3).push { cls := .type "tuple", data := .seq #[.ref h.objs.size, .ref (lay1 h l1).objs.size, .ref (lay2 h l1 l2).objs.size] }
abbrev lay5 (h : Heap) (l1 l2 l3 : Addr) : Heap := (lay4 h l1 l2 l3).push { cls := .type "tuple", data := .seq #[.none, .none, .none] }
abbrev lay6 (h : Heap) (l1 l2 l3 : Addr) : Heap := (lay5 h l1 l2 l3).push { cls := .type "zip", data := .fields #[.none, .bool false, .bool false, .ref (lay3 h l1 l2 l3).objs.size, .ref (lay4 h l1 l2 l3).objs.size] }
theorem z3_meets (l1 l2 l3 : Addr) (xs ys ws : Array Value) :
    Meets (Builtin.«zip.__new__» ⟨[.type "zip", .ref l1, .ref l2, .ref l3], []⟩) (fun _ R s => s.heap.IsTuple l1 xs ∧ s.heap.IsTuple l2 ys ∧ s.heap.IsTuple l3 ws ∧ R (.ok (.ret (.ref (lay5 s.heap l1 l2 l3).objs.size))) { s with heap := lay6 s.heap l1 l2 l3 }) :=
  .of_wp fun prog w A R s h => by
    obtain ⟨hp, g, d, tk, os⟩ := s
    obtain ⟨p1, p2, p3, h⟩ := h
    have hsub := sub_zip
    have e1 : Heap.IsTuple (Shared.heap ⟨hp, g, d, tk, os⟩) l1 xs := p1
    have e2 : Heap.IsTuple (Shared.heap ⟨hp.push { cls := .type "tuple_iterator", data := .fields #[.ref l1, .int 0 0] }, g, d, tk, os⟩) l2 ys := Heap.IsTuple.push p2 _
    have e3 : Heap.IsTuple (Shared.heap ⟨(hp.push { cls := .type "tuple_iterator", data := .fields #[.ref l1, .int 0 0] }).push { cls := .type "tuple_iterator", data := .fields #[.ref l2, .int 0 0] }, g, d, tk, os⟩) l3 ws := Heap.IsTuple.push (Heap.IsTuple.push p3 _) _
    wp_walk using wpAny_pyIter_tuple e1, wpAny_pyIter_tuple e2, wpAny_pyIter_tuple e3
    exact ⟨_, rfl, h⟩
section
variable {prog : Program} {w : World} {A : Around} {E : Value → Shared → Prop} {s : Shared}
theorem call_zip3 {l1 l2 l3 : Addr} {xs ys ws : Array Value} {Q : Value → Shared → Prop} (p1 : s.heap.IsTuple l1 xs) (p2 : s.heap.IsTuple l2 ys) (p3 : s.heap.IsTuple l3 ws)
    (h : ∀ h', Z3 h' s.heap.objs.size l1 l2 l3 0 → h'.objs.size = s.heap.objs.size + 6 → (∀ c o, s.heap.get? c = some o → h'.get? c = some o) → Q (.ref (s.heap.objs.size + 5)) { s with heap := h' }) :
    wpAny (model prog w) A (call (.type "zip") [.ref l1, .ref l2, .ref l3]) Q E s := by
  refine callType_new F.called_zip (by decide) (z3_type _ _ _) (z3_new _ _ _) (fun obj => z3_init obj _ _ _) F.entry_zip_new (z3_meets l1 l2 l3 xs ys ws) ⟨p1, p2, p3, ?_⟩
  have y1 : (lay1 s.heap l1).objs.size = s.heap.objs.size + 1 := Heap.size_push ..
  have y2 : (lay2 s.heap l1 l2).objs.size = s.heap.objs.size + 2 := by rw [Heap.size_push, y1]
  have y3 : (lay3 s.heap l1 l2 l3).objs.size = s.heap.objs.size + 3 := by rw [Heap.size_push, y2]
  have y4 : (lay4 s.heap l1 l2 l3).objs.size = s.heap.objs.size + 4 := by rw [Heap.size_push, y3]
  have y5 : (lay5 s.heap l1 l2 l3).objs.size = s.heap.objs.size + 5 := by rw [Heap.size_push, y4]
  have y6 : (lay6 s.heap l1 l2 l3).objs.size = s.heap.objs.size + 6 := by rw [Heap.size_push, y5]
  have u5 : ∀ {c o}, (lay5 s.heap l1 l2 l3).get? c = some o → (lay6 s.heap l1 l2 l3).get? c = some o := fun e => Heap.get?_push_of_some _ e
  have u4 : ∀ {c o}, (lay4 s.heap l1 l2 l3).get? c = some o → (lay6 s.heap l1 l2 l3).get? c = some o := fun e => u5 (Heap.get?_push_of_some _ e)
  have u3 : ∀ {c o}, (lay3 s.heap l1 l2 l3).get? c = some o → (lay6 s.heap l1 l2 l3).get? c = some o := fun e => u4 (Heap.get?_push_of_some _ e)
  have u2 : ∀ {c o}, (lay2 s.heap l1 l2).get? c = some o → (lay6 s.heap l1 l2 l3).get? c = some o := fun e => u3 (Heap.get?_push_of_some _ e)
  have u1 : ∀ {c o}, (lay1 s.heap l1).get? c = some o → (lay6 s.heap l1 l2 l3).get? c = some o := fun e => u2 (Heap.get?_push_of_some _ e)
  have f6 : (lay6 s.heap l1 l2 l3).get? (lay5 s.heap l1 l2 l3).objs.size = some _ := Heap.get?_push_size _ rfl
  have f5 : (lay6 s.heap l1 l2 l3).get? (lay4 s.heap l1 l2 l3).objs.size = some _ := u5 (Heap.get?_push_size _ rfl)
  have f4 : (lay6 s.heap l1 l2 l3).get? (lay3 s.heap l1 l2 l3).objs.size = some _ := u4 (Heap.get?_push_size _ rfl)
  have f3 : (lay6 s.heap l1 l2 l3).get? (lay2 s.heap l1 l2).objs.size = some _ := u3 (Heap.get?_push_size _ rfl)
  have f2 : (lay6 s.heap l1 l2 l3).get? (lay1 s.heap l1).objs.size = some _ := u2 (Heap.get?_push_size _ rfl)
  have f1 : (lay6 s.heap l1 l2 l3).get? s.heap.objs.size = some _ := u1 (Heap.get?_push_size _ rfl)
  show _ ∧ _
  rw [y3, y4, y5] at f6
  rw [y1, y2, y3] at f4
  rw [y4] at f5
  rw [y2] at f3
  rw [y1] at f2
  rw [y5]
  exact ⟨⟨_, f6, rfl⟩, h _ ⟨f6, f4, ⟨_, _, _, f5⟩, ⟨_, f1, rfl, rfl⟩, ⟨_, f2, rfl, rfl⟩, ⟨_, f3, rfl, rfl⟩⟩ y6 fun c o e => u1 (Heap.get?_push_of_some _ e)⟩
end
/-! as something walked through -/
def It3 (K : PySem.W.Frag) (a b c : Addr) : It :=
  ⟨fun i H => ∃ (xs ys ws : List V) (x y v : V), SqT K H a xs ∧ SqT K H b ys ∧ SqT K H c ws ∧ xs[i]? = some x ∧ ys[i]? = some y ∧ ws[i]? = some v,
    fun i H u H' => ∃ T x y v, u = .ref T ∧ H T = none ∧ H' = upd H T (.tup [x, y, v]) ∧ (∀ xs, SqT K H a xs → xs[i]? = some x) ∧ (∀ ys, SqT K H b ys → ys[i]? = some y) ∧ ∀ ws, SqT K H c ws → ws[i]? = some v,
    fun i H => ∃ xs ys ws : List V, SqT K H a xs ∧ SqT K H b ys ∧ SqT K H c ws ∧ (xs.length ≤ i ∨ ys.length ≤ i ∨ ws.length ≤ i)⟩
abbrev foot (n : Nat) : List Addr := [n + 5, n + 3, n + 4, n, n + 1, n + 2]
theorem foot_mem {n : Nat} {b : Addr} : b ∈ foot n ↔ (b = n + 5 ∨ b = n + 3 ∨ b = n + 4 ∨ b = n ∨ b = n + 1 ∨ b = n + 2) := by simp [foot]
theorem turn_zip3 {P : Program} {w : World} {K : PySem.W.Frag} {elts : List Expr} {kk : Nat} {tpos : Pos} {n a b c : Nat} (ha : a < n) (hb : b < n) (hc : c < n) :
    Turn P w K (.Tuple elts kk tpos) (It3 K a b c) (foot n) (n + 5) (fun i h => Z3 h n a b c i) where
  mem := by simp
  obj := fun i h st d hd => by
    obtain ⟨hz, hti, ⟨x, y, v, hto⟩, ⟨o1, e1, _, d1⟩, ⟨o2, e2, _, d2⟩, ⟨o3, e3, _, d3⟩⟩ := st
    rcases foot_mem.mp hd with q | q | q | q | q | q
    · rw [q]; exact ⟨_, hz, fun v q => nomatch q⟩
    · rw [q]; exact ⟨_, hti, fun v q => nomatch q⟩
    · rw [q]; exact ⟨_, hto, fun v q => nomatch q⟩
    · rw [q]; exact ⟨o1, e1, fun v q => by rw [d1] at q; cases q⟩
    · rw [q]; exact ⟨o2, e2, fun v q => by rw [d2] at q; cases q⟩
    · rw [q]; exact ⟨o3, e3, fun v q => by rw [d3] at q; cases q⟩
  keep := fun i h h' st k => by
    obtain ⟨hz, hti, ⟨x, y, v, hto⟩, t1, t2, t3⟩ := st
    exact ⟨k _ (by simp) _ hz, k _ (by simp) _ hti, ⟨x, y, v, k _ (by simp) _ hto⟩, t1.at fun o q => k _ (by simp) o q, t2.at fun o q => k _ (by simp) o q, t3.at fun o q => k _ (by simp) o q⟩
  item := by
    intro X hP hw hK hca i pins s σ H E I hf st hg
    subst hP hw hK
    obtain ⟨xs, ys, ws, x, y, v, sx, sy, sv, hx, hy, hv⟩ := hg
    obtain ⟨its, rv, p, _⟩ := I.tuple sx
    obtain ⟨its2, rv2, p2, _⟩ := I.tuple sy
    obtain ⟨its3, rv3, p3, _⟩ := I.tuple sv
    obtain ⟨u, hu, ru⟩ := rv.get hx
    obtain ⟨u2, hu2, ru2⟩ := rv2.get hy
    obtain ⟨u3, hu3, ru3⟩ := rv3.get hv
    have zl : n + 5 < s.heap.objs.size := Heap.lt_size st.z
    have hti := st.ti
    refine next3_item st ha hb hc p p2 p3 (x := u) (y := u2) (v := u3) (by simpa using hu) (by simpa using hu2) (by simpa using hu3) fun h' z' o' t1 t2 t3 hT sz keep => ⟨_, rfl, ?_⟩
    refine wpAny_letOwnedTupleGo_zip (s := { s with heap := h' }) z' fun h'' z'' sb => ?_
    have hT2 : h''.get? s.heap.objs.size = some { cls := .type "tuple", data := .seq #[u, u2, u3] } := (sb.2 _ (Nat.ne_of_gt zl)).trans hT
    have new : ObjOk X.prog X.w (upd H s.heap.objs.size (.tup [x, y, v])) h'' s.heap.objs.size (.tup [x, y, v]) := ⟨by show 3 ≤ sizeLine; decide, [u, u2, u3], .cons ru (.cons ru2 (.cons ru3 .nil)), ⟨_, hT2, rfl, _, rfl⟩⟩
    have I1 : Inv X pins σ (upd H s.heap.objs.size (.tup [x, y, v])) { s with heap := h'' } := I.turnedNew (t' := s.toks) (ch := foot n) (fun d o hd q => by
      have nd : ∀ m, m ∈ foot n → d ≠ m := fun m hm e => hd (e ▸ hm)
      exact (sb.2 d (nd _ (by simp))).trans (keep d o (nd _ (by simp)) (nd _ (by simp)) (nd _ (by simp)) (nd _ (by simp)) (nd _ (by simp)) q)) hf (Nat.le_refl _) new
    refine ⟨.ref s.heap.objs.size, _, I1, rfl, ⟨_, x, y, v, rfl, I.hok.fresh (Nat.le_refl _), rfl, fun l hl => by rw [I.tuple_inj hl sx]; exact hx, fun l hl => by rw [I.tuple_inj hl sy]; exact hy, fun l hl => by rw [I.tuple_inj hl sv]; exact hv⟩, ⟨z'', ?_, ⟨u, u2, u3, ?_⟩, ?_, ?_, ?_⟩, fun d hd => ?_⟩
    · exact (sb.2 _ (by show @Ne Nat _ _; omega)).trans (keep _ _ (by show @Ne Nat _ _; omega) (by show @Ne Nat _ _; omega) (by show @Ne Nat _ _; omega) (by show @Ne Nat _ _; omega) (by show @Ne Nat _ _; omega) hti)
    · exact (sb.2 _ (by show @Ne Nat _ _; omega)).trans o'
    · exact t1.at fun o q => (sb.2 _ (by show @Ne Nat _ _; omega)).trans q
    · exact t2.at fun o q => (sb.2 _ (by show @Ne Nat _ _; omega)).trans q
    · exact t3.at fun o q => (sb.2 _ (by show @Ne Nat _ _; omega)).trans q
    · have lt : d < s.heap.objs.size := by
        have zl' : n + 5 < s.heap.objs.size := zl
        rcases foot_mem.mp hd with q | q | q | q | q | q <;> (rw [q]; show @LT.lt Nat _ _ _; omega)
      rw [upd_ne (Nat.ne_of_lt lt)]
      exact (hf d hd).1
  done := by
    intro X hP hw hK hca i pins s σ H E I hf st hg
    subst hP hw hK
    obtain ⟨xs, ys, ws, sx, sy, sv, fin⟩ := hg
    obtain ⟨its, rv, p, _⟩ := I.tuple sx
    obtain ⟨its2, rv2, p2, _⟩ := I.tuple sy
    obtain ⟨its3, rv3, p3, _⟩ := I.tuple sv
    have e1 := rv.length
    have e2 := rv2.length
    have e3 := rv3.length
    have he : its.toArray[i]? = none ∨ its2.toArray[i]? = none ∨ its3.toArray[i]? = none := by
      rcases fin with q | q | q
      · exact .inl (by simp; omega)
      · exact .inr (.inl (by simp; omega))
      · exact .inr (.inr (by simp; omega))
    refine next3_end (I.ok.hd hca) st ha hb hc p p2 p3 he fun h' keep => ⟨rfl, I.turnedL (t' := s.toks) (ch := foot n) (fun d o hd q => ?_) hf⟩
    have nd : ∀ m, m ∈ foot n → d ≠ m := fun m hm e => hd (e ▸ hm)
    exact keep d o (nd _ (by simp)) (nd _ (by simp)) (nd _ (by simp)) (nd _ (by simp)) (nd _ (by simp)) q
  self := fun A i s Q E st h => wpAny_pyIter_zip st.z h
def iZip3 (K : PySem.W.Frag) (ta : TA) : TI := fun σ H R => ta σ H fun vs H1 => ∃ a b c xs ys ws, vs = [.ref a, .ref b, .ref c] ∧ SqT K H1 a xs ∧ SqT K H1 b ys ∧ SqT K H1 c ws ∧ R (It3 K a b c) H1
theorem pi_zip3 {X : Cx} {e e2 e3 : Expr} {ta : TA} {p pos tpos : Pos} {elts : List Expr} {kk : Nat} (hg : Gl X "zip") (hm : X.mg "zip" = none) (ha : PA X [e, e2, e3] ta)
    (hs : starEach [e, e2, e3] X.env = (false, eval e X.env) :: starEach [e2, e3] X.env := by rfl) (hpl : (backTo pos (starEach [e2, e3] X.env)).any (·.1) = false := by rfl) :
    PI X (.Tuple elts kk tpos) (.Call (.Name "zip" p) [e, e2, e3] [] pos) (iZip3 X.K ta) := by
  refine ⟨fun pins s σ H R I h => ?_⟩
  refine Call_ (ld_blt I hg hm PyProof.Rows.boot_zip (PyProof.Rows.callWith_type1 (thn (ha.run pos pins s σ H _ I h) fun us s1 ⟨vs, H1, I1, r1, q1⟩ => ?_) hs hpl))
  obtain ⟨a, b, c, xs, ys, ws, rfl, sx, sy, sv, q⟩ := q1
  cases r1 with
  | cons r rr =>
    cases rr with
    | cons r' rr =>
      cases rr with
      | cons r'' rr =>
        cases rr
        cases r
        cases r'
        cases r''
        obtain ⟨its, rv, p1, _⟩ := I1.tuple sx
        obtain ⟨its2, rv2, p2, _⟩ := I1.tuple sy
        obtain ⟨its3, rv3, p3, _⟩ := I1.tuple sv
        obtain ⟨o1, ho1, _⟩ := id p1
        obtain ⟨o2, ho2, _⟩ := id p2
        obtain ⟨o3, ho3, _⟩ := id p3
        have fresh : ∀ d, d ∈ foot s1.heap.objs.size → FpOk X pins H1 d := fun d hd => by
          have le : s1.heap.objs.size ≤ d := by
            rcases foot_mem.mp hd with z | z | z | z | z | z <;> (rw [z]; show @LE.le Nat _ _ _; omega)
          exact I1.fpOk le (I1.hok.fresh le)
        refine call_zip3 p1 p2 p3 fun h' st sz keep => wpAny_pyIter_zip st.z ?_
        have I2 : Inv X pins σ H1 { s1 with heap := h' } := I1.kept (t' := s1.toks) keep
        exact ⟨_, foot s1.heap.objs.size, _, _, H1, rfl, I2, turn_zip3 (Heap.lt_size ho1) (Heap.lt_size ho2) (Heap.lt_size ho3), st, fresh, q⟩
variable [kk : KK]
def zipD3 : List PD → List PD → List PD → List PD
  | x :: xs, y :: ys, z :: zs => .tuple [x, y, z] :: zipD3 xs ys zs
  | _, _, _ => []
def zip3P : List PD → Option (List PD)
  | [.tuple xs, .tuple ys, .tuple zs] => some (zipD3 xs ys zs)
  | _ => none
omit kk in
theorem zipD3_len : ∀ (xs ys zs : List PD), (zipD3 xs ys zs).length = min xs.length (min ys.length zs.length)
  | [], _, _ => by simp [zipD3]
  | _ :: _, [], _ => by simp [zipD3]
  | _ :: _, _ :: _, [] => by simp [zipD3]
  | x :: xs, y :: ys, z :: zs => by
    rw [zipD3, List.length_cons, zipD3_len xs ys zs, List.length_cons, List.length_cons, List.length_cons]
    omega
omit kk in
theorem zipD3_get : ∀ {xs ys zs : List PD} {i : Nat} {d : PD}, (zipD3 xs ys zs)[i]? = some d → ∃ x y z, xs[i]? = some x ∧ ys[i]? = some y ∧ zs[i]? = some z ∧ d = .tuple [x, y, z]
  | [], _, _, _, _, h => by simp [zipD3] at h
  | _ :: _, [], _, _, _, h => by simp [zipD3] at h
  | _ :: _, _ :: _, [], _, _, h => by simp [zipD3] at h
  | x :: xs, y :: ys, z :: zs, 0, d, h => by
    rw [zipD3] at h
    exact ⟨x, y, z, rfl, rfl, rfl, by simpa using h.symm⟩
  | x :: xs, y :: ys, z :: zs, i + 1, d, h => by
    rw [zipD3] at h
    exact zipD3_get (i := i) (by simpa using h)
theorem loose3 {S' : Hs} {H2 : Hp} {T : Addr} {u v t : V} {x y z : PD} (al : Al S' H2) (hT : H2 T = none) (ru : Rp (hid S' H2) u x) (rv : Rp (hid S' H2) v y) (rt : Rp (hid S' H2) t z) : Ex H2 (upd H2 T (.tup [u, v, t])) ∧ Rk true (hid S' (upd H2 T (.tup [u, v, t]))) (.ref T) (.tuple [x, y, z]) :=
  ⟨Ex.new hT, .inr ⟨rfl, T, _, _, rfl, new_ok al hT, .cons (ru.ex (hid_ex (Ex.new hT))) (.cons (rv.ex (hid_ex (Ex.new hT))) (.cons (rt.ex (hid_ex (Ex.new hT))) .nil)), rfl⟩⟩
section
variable {S : Hs} {H : Hp}
theorem wk_zip3 {a b c : Addr} {o o' o'' : Obj} {vs us ts : List V} {xs ys zs : List PD} (ha : hid S H a = some (fz o vs)) (ra : RpAll (hid S H) vs xs) (hb : hid S H b = some (fz o' us)) (rb : RpAll (hid S H) us ys) (hc : hid S H c = some (fz o'' ts)) (rc : RpAll (hid S H) ts zs) : Wk true S (It3 K a b c) (zipD3 xs ys zs) H := fun S' H2 e2 al2 => by
  have s1 : SqT K H2 a vs := .inl (.inr ⟨_, hid_le _ _ (e2 _ _ ha)⟩)
  have s2 : SqT K H2 b us := .inl (.inr ⟨_, hid_le _ _ (e2 _ _ hb)⟩)
  have s3 : SqT K H2 c ts := .inl (.inr ⟨_, hid_le _ _ (e2 _ _ hc)⟩)
  have ra2 := ra.ex e2
  have rb2 := rb.ex e2
  have rc2 := rc.ex e2
  refine ⟨⟨_, _, _, s1, s2, s3, by rw [ra2.length, rb2.length, rc2.length, zipD3_len]; omega⟩, fun i x hx => ?_⟩
  obtain ⟨d1, d2, d3, h1, h2, h3, rfl⟩ := zipD3_get hx
  obtain ⟨v, hv, rv⟩ := ra2.get h1
  obtain ⟨u, hu, ru⟩ := rb2.get h2
  obtain ⟨t, ht, rt⟩ := rc2.get h3
  refine ⟨⟨_, _, _, v, u, t, s1, s2, s3, hv, hu, ht⟩, fun w H3 yl => ?_⟩
  obtain ⟨T, z1, z2, z3, rfl, eT, rfl, f1, f2, f3⟩ := yl
  have q1 := f1 _ s1
  rw [hv] at q1
  cases q1
  have q2 := f2 _ s2
  rw [hu] at q2
  cases q2
  have q3 := f3 _ s3
  rw [ht] at q3
  cases q3
  exact loose3 al2 eT rv ru rt
end
theorem core_zip3 {S : Hs} {vs : List V} {H1 : Hp} {ds xs : List PD} {R : It → Hp → Prop} (h : zip3P ds = some xs) (rv : RpAll (hid S H1) vs ds) (q : ∀ J, Wk true S J xs H1 → R J H1) : ∃ a b c us ws ts, vs = [.ref a, .ref b, .ref c] ∧ SqT K H1 a us ∧ SqT K H1 b ws ∧ SqT K H1 c ts ∧ R (It3 K a b c) H1 := by
  unfold zip3P at h
  split at h
  · cases h
    cases rv with
    | cons h1 t =>
      cases t with
      | cons h2 t =>
        cases t with
        | cons h3 t =>
          cases t
          cases h1 with
          | tup ha _ ra =>
            cases h2 with
            | tup hb _ rb =>
              cases h3 with
              | tup hc _ rc => exact ⟨_, _, _, _, _, _, rfl, .inl (.inr ⟨_, hid_le _ _ ha⟩), .inl (.inr ⟨_, hid_le _ _ hb⟩), .inl (.inr ⟨_, hid_le _ _ hc⟩), q _ (wk_zip3 ha ra hb rb hc rc)⟩
  · cases h
section
variable {ts : TA}
theorem si_zip3 {as : XA} (hs : SA ts as) : SI true (iZip3 K ts) (xiA zip3P as) := fun ρ xs h S σ H al en R q => by
  obtain ⟨ds, h1, h⟩ := bind_some h
  exact hs ρ ds h1 S σ H al en _ fun vs H1 e1 rv => core_zip3 h rv fun J w => q J H1 e1 w
theorem swi_zip3 {as : XWA} (hs : SWA ts as) : SWI true (iZip3 K ts) (wiA zip3P as) := fun pn F T H σ ρ xs ρ' st h R q => by
  obtain ⟨⟨ds, ρ1⟩, h1, h⟩ := bind_some h
  obtain ⟨ys, h2, h⟩ := bind_some h
  cases h
  exact hs pn F T H σ ρ ds _ st h1 _ fun vs T1 H1 st1 s1 rv => core_zip3 h2 rv fun J w => q J T1 H1 st1 s1 w
end
end Uv

namespace Uv
open PySem PySem.Spec PyProof.Rows L2
open Evl (Ex)
/-! ### sorted(set(t)), len(set(t)) of a tuple of whole numbers -/
/-- how many unlike ones there are -/
def Cnt (ns : List Int) (c : Nat) : Prop := ∀ l : List Int, l.Nodup → (∀ k, k ∈ l ↔ k ∈ ns) → l.length = c
def rSetT (w : World) (K : PySem.W.Frag) : List V → Hp → VK → Prop := fun xs H Q => ∃ (p : Addr) (ns : List Int), xs = [.ref p] ∧ SqT K H p (ns.map V.int) ∧ ns.length < 64 ∧
  ∀ (a : Addr) (c : Nat), H a = none → c ≤ ns.length → Cnt ns c → Q (.ref a) (upd H a (SetO w a (fun j => decide (j ∈ ns)) c))
theorem cr_setT {X : Cx} (hc : X.calm = true) : CallR X (.type "set") (rSetT X.w X.K) := by
  intro pins s σ H xs us Q I r h
  obtain ⟨p, ns, rfl, hq, hl, q⟩ := h
  obtain ⟨its, rv, pt, hz⟩ := I.tuple hq
  rw [Vals.ref1 r]
  refine call_set_tupI ns (I.ok.hd hc) (show s.heap.IsTuple p its.toArray from pt) (ints_of_vals rv) (by unfold scanBound; omega) fun h' tk c R1 hcn k => ?_
  have cnt : Cnt ns c := fun l nd hm => by
    obtain ⟨o, es, ep, t, _, _, _, _, nd', hm2, _, _, hn, _⟩ := R1
    have pm : l.Perm (es.toList.map keyOf) := (List.perm_ext_iff_of_nodup nd nd').mpr fun j => by rw [hm, ← hm2 j, decide_eq_true_eq]
    rw [pm.length_eq, List.length_map, Array.length_toList, hn]
  exact ⟨.ref _, upd H s.heap.objs.size (SetO X.w s.heap.objs.size _ c), I.laid (t' := tk) k (Nat.le_refl _) (setO_new R1), rfl, q _ c (I.hok.fresh (Nat.le_refl _)) hcn cnt⟩
def rLenSet (w : World) : List V → Hp → VK → Prop := fun xs H Q => ∃ (a : Addr) (S : Int → Bool) (n : Nat), xs = [.ref a] ∧ H a = some (SetO w a S n) ∧ Q (.int (n : Nat)) H
theorem cr_lenSet {X : Cx} : CallR X (.builtin "len") (rLenSet X.w) := by
  intro pins s σ H xs us Q I r h
  obtain ⟨a, S, n, rfl, ha, q⟩ := h
  obtain ⟨o, es, ep, t, ho, hex, hd, _, _, _, hb, hf, hn, _⟩ := setO_get I ha
  rw [Vals.ref1 r]
  exact call_len_set ho hex hd hf (by unfold scanBound at hb; omega) ⟨.int n, H, I.tok _, ⟨_, by rw [hn]⟩, q⟩
def tSortSet (K : PySem.W.Frag) (ta : TE) : TE := fun σ H Q => ta σ H fun x H1 => ∃ (p : Addr) (ns : List Int), x = .ref p ∧ SqT K H1 p (ns.map V.int) ∧ ns.length < 64 ∧
  ∀ (ms : List Int) (a b : Addr) (o : HO), ms.Pairwise (· < ·) → (∀ k, k ∈ ms ↔ k ∈ ns) → H1 a = none → upd H1 a o b = none → Q (.ref b) (upd (upd H1 a o) b (.lst (ms.map V.int)))
def tLenSetT (K : PySem.W.Frag) (ta : TE) : TE := fun σ H Q => ta σ H fun x H1 => ∃ (p : Addr) (ns : List Int), x = .ref p ∧ SqT K H1 p (ns.map V.int) ∧ ns.length < 64 ∧
  ∀ (a : Addr) (o : HO) (c : Nat), H1 a = none → Cnt ns c → Q (.int (c : Nat)) (upd H1 a o)
theorem PE.mono {X : Cx} {e : Expr} {t u : TE} (h : PE X e t) (m : ∀ σ H Q, u σ H Q → t σ H Q) : PE X e u := ⟨fun pins s σ H Q I q => h.run pins s σ H Q I (m σ H Q q)⟩
/-- a reading that asks for no more than it needs -/
def clo (ta : TE) : TE := fun σ H R => ∃ Q : VK, ta σ H Q ∧ ∀ v H1, Q v H1 → R v H1
theorem PE.clo {X : Cx} {e : Expr} {t : TE} (h : PE X e t) : PE X e (clo t) := ⟨fun pins s σ H R I ⟨Q, q, imp⟩ => thn (h.run pins s σ H Q I q) fun v s1 ⟨x, H1, I1, r1, q1⟩ => ⟨x, H1, I1, r1, imp _ _ q1⟩⟩
section
variable {X : Cx} {ta : TE} {a : Expr} {p p2 q pos : Pos}
theorem pe_sortSet (hc : X.calm = true) (hg : Gl X "sorted") (hm : X.mg "sorted" = none) (hg2 : Gl X "set") (hm2 : X.mg "set" = none) (ha : PE X a ta) (n1 : starEach [a] X.env = (false, eval a X.env) :: starEach [] X.env := by rfl) : PE X (.Call (.Name "sorted" p) [.Call (.Name "set" p2) [a] [] q] [] pos) (tSortSet X.K ta) :=
  PE.mono (pe_callB (cr_sortedSet hc) hg hm (by decide +kernel) (pa_cons (pe_callTy (cr_setT hc) hg2 hm2 (by decide +kernel) (pa_cons (PE.clo ha) pa_nil (hs := n1)) (he := n1)) pa_nil)) fun σ H Q h => by
    refine ⟨_, h, fun v H1 hv => ?_⟩
    obtain ⟨p, ns, rfl, hq, hl, q⟩ := hv
    exact ⟨p, ns, rfl, hq, hl, fun a c ha hcn cnt => ⟨a, _, c, rfl, upd_same, by omega, fun ms b so hm hlen hb => q ms a b _ so (fun k => by rw [hm k, decide_eq_true_eq]) ha hb⟩⟩
theorem pe_lenSetT (hc : X.calm = true) (hg : Gl X "len") (hm : X.mg "len" = none) (hg2 : Gl X "set") (hm2 : X.mg "set" = none) (ha : PE X a ta) (n1 : starEach [a] X.env = (false, eval a X.env) :: starEach [] X.env := by rfl) : PE X (.Call (.Name "len" p) [.Call (.Name "set" p2) [a] [] q] [] pos) (tLenSetT X.K ta) :=
  PE.mono (pe_callB cr_lenSet hg hm (by decide +kernel) (pa_cons (pe_callTy (cr_setT hc) hg2 hm2 (by decide +kernel) (pa_cons (PE.clo ha) pa_nil (hs := n1)) (he := n1)) pa_nil)) fun σ H Q h => by
    refine ⟨_, h, fun v H1 hv => ?_⟩
    obtain ⟨p, ns, rfl, hq, hl, q⟩ := hv
    exact ⟨p, ns, rfl, hq, hl, fun a c ha hcn cnt => ⟨a, _, c, rfl, upd_same, q a _ c ha cnt⟩⟩
end
variable [kk : KK]
def insS (x : Int) : List Int → List Int
  | [] => [x]
  | y :: l => if x < y then x :: y :: l else if x = y then y :: l else y :: insS x l
def setS : List Int → List Int
  | [] => []
  | x :: l => insS x (setS l)
omit kk in
theorem mem_insS {x k : Int} : ∀ {l : List Int}, k ∈ insS x l ↔ k = x ∨ k ∈ l
  | [] => by simp [insS]
  | y :: l => by
    unfold insS
    by_cases c : x < y
    · rw [if_pos c, List.mem_cons]
    · rw [if_neg c]
      by_cases d : x = y
      · rw [if_pos d, d, List.mem_cons]
        exact ⟨fun z => .inr z, fun z => z.elim (fun e => .inl e) id⟩
      · rw [if_neg d, List.mem_cons, mem_insS, List.mem_cons]
        exact ⟨fun z => z.elim (fun e => .inr (.inl e)) fun e => e.elim .inl fun e => .inr (.inr e), fun z => z.elim (fun e => .inr (.inl e)) fun e => e.elim .inl fun e => .inr (.inr e)⟩
omit kk in
theorem insS_up {x : Int} : ∀ {l : List Int}, l.Pairwise (· < ·) → (insS x l).Pairwise (· < ·)
  | [], _ => by simp [insS]
  | y :: l, h => by
    obtain ⟨h1, h2⟩ := List.pairwise_cons.mp h
    unfold insS
    by_cases c : x < y
    · rw [if_pos c]
      refine List.pairwise_cons.mpr ⟨fun z hz => ?_, h⟩
      rcases List.mem_cons.mp hz with e | e
      · omega
      · have := h1 z e; omega
    · rw [if_neg c]
      by_cases d : x = y
      · rw [if_pos d]; exact h
      · rw [if_neg d]
        refine List.pairwise_cons.mpr ⟨fun z hz => ?_, insS_up h2⟩
        rcases mem_insS.mp hz with e | e
        · omega
        · exact h1 z e
omit kk in
theorem mem_setS {k : Int} : ∀ {l : List Int}, k ∈ setS l ↔ k ∈ l
  | [] => by simp [setS]
  | x :: l => by rw [setS, mem_insS, mem_setS, List.mem_cons]
omit kk in
theorem setS_up : ∀ {l : List Int}, (setS l).Pairwise (· < ·)
  | [] => by simp [setS]
  | x :: l => by rw [setS]; exact insS_up setS_up
omit kk in
theorem up_eq {l m : List Int} (hl : l.Pairwise (· < ·)) (hm : m.Pairwise (· < ·)) (h : ∀ k, k ∈ l ↔ k ∈ m) : l = m := by
  refine List.Perm.eq_of_pairwise (le := fun a b => a < b) (fun a b _ _ h1 h2 => by omega) hl hm ?_
  exact (List.perm_ext_iff_of_nodup (hl.imp fun h => by omega) (hm.imp fun h => by omega)).mpr h
def sortSetP : PD → Option PD
  | .tuple ds => (unI ds).bind fun ns => if ns.length < 64 then some (.list ((setS ns).map PyData.int)) else none
  | _ => none
def lenSetP : PD → Option PD
  | .tuple ds => (unI ds).bind fun ns => if ns.length < 64 then some (.int ((setS ns).length : Nat)) else none
  | _ => none
theorem se_sortSet {ta : TE} {a : XE} (ha : SE ta a) : SE (tSortSet K ta) (xUn sortSetP a) := fun ρ d h S σ H al en Q q => by
  obtain ⟨x, h1, h⟩ := bind_some h
  refine ha ρ _ h1 S σ H al en _ fun v H1 e1 rv => ?_
  cases rv with
  | tup hx _ ra =>
    obtain ⟨ns, h2, h3⟩ := bind_some h
    have e := unI_eq h2
    subst e
    have e := ra.ints
    subst e
    by_cases c : ns.length < 64
    · rw [if_pos c] at h3
      cases h3
      refine ⟨_, ns, rfl, .inl (.inr ⟨_, hid_le _ _ hx⟩), c, fun ms a b o so hm fa fb => ?_⟩
      have e := up_eq so setS_up fun k => by rw [hm k, mem_setS]
      subst e
      have al1 := (al.ex e1).ex (Ex.new (o := o) fa)
      exact q _ _ ((e1.trans (Ex.new fa)).trans (Ex.new fb)) (.lst (new_ok al1 fb) (RpAll.ofInts _))
    · rw [if_neg c] at h3; cases h3
  | _ => cases h
theorem se_lenSet {ta : TE} {a : XE} (ha : SE ta a) : SE (tLenSetT K ta) (xUn lenSetP a) := fun ρ d h S σ H al en Q q => by
  obtain ⟨x, h1, h⟩ := bind_some h
  refine ha ρ _ h1 S σ H al en _ fun v H1 e1 rv => ?_
  cases rv with
  | tup hx _ ra =>
    obtain ⟨ns, h2, h3⟩ := bind_some h
    have e := unI_eq h2
    subst e
    have e := ra.ints
    subst e
    by_cases c : ns.length < 64
    · rw [if_pos c] at h3
      cases h3
      refine ⟨_, ns, rfl, .inl (.inr ⟨_, hid_le _ _ hx⟩), c, fun a o c fa cnt => ?_⟩
      have e := cnt (setS ns) (setS_up.imp fun h => by omega) fun k => mem_setS
      rw [← e]
      exact q _ _ (e1.trans (Ex.new fa)) (.int _)
    · rw [if_neg c] at h3; cases h3
  | _ => cases h
end Uv

namespace Uv
open PySem PySem.Spec PyProof.Rows L2
open Evl (Ex)
theorem u1 {k : Nat} {A : Around} (r : Room k A) : A.units + 1 < cLine := by have := r.un; omega
variable [kk : KK]
/-! ### a dict of its own: whole numbers for keys, data -/
def hasD (l : List (Int × PD)) (n : Int) : Bool := l.any fun kv => decide (kv.1 = n)
def getD (l : List (Int × PD)) (n : Int) : Option PD := (l.find? fun kv => decide (kv.1 = n)).map (·.2)
def putD (l : List (Int × PD)) (n : Int) (d : PD) : List (Int × PD) := if hasD l n = true then l.map (fun kv => if kv.1 = n then (kv.1, d) else kv) else l ++ [(n, d)]
def dicAt (ρ : Env) (i : Nat) : Option (List (Int × PD)) := match ρ[i]? with
  | some (.dic l) => some l
  | _ => none
omit kk in
theorem dicAt_eq {ρ : Env} {i : Nat} {l : List (Int × PD)} (h : dicAt ρ i = some l) : ρ[i]? = some (.dic l) := by
  unfold dicAt at h
  split at h
  · rename_i e; cases h; exact e
  · cases h
theorem Kvs.has {G : Hp} : ∀ {ks : List (Key × V)} {l : List (Int × PD)} (n : Int), Kvs G ks l → (ks.any fun kv => decide (kv.1 = .inl n)) = hasD l n
  | _, _, _, .nil => rfl
  | _, _, n, .cons (k := k) r c => by
    rw [List.any_cons, c.has n]
    show (decide ((Sum.inl k : Key) = .inl n) || _) = (decide (k = n) || _)
    congr 1
    exact Bool.eq_iff_iff.mpr (by simp)
theorem Kvs.repl {G : Hp} {v : V} {d : PD} (rv : Rp G v d) (n : Int) : ∀ {ks : List (Key × V)} {l : List (Int × PD)}, Kvs G ks l → Kvs G (ks.map fun kv => if kv.1 = .inl n then (kv.1, v) else kv) (l.map fun kv => if kv.1 = n then (kv.1, d) else kv)
  | _, _, .nil => .nil
  | _, _, .cons (k := k) r c => by
    rw [List.map_cons, List.map_cons]
    by_cases e : k = n
    · subst e
      rw [if_pos rfl, if_pos rfl]
      exact .cons rv (c.repl rv k)
    · rw [if_neg (fun z => e (Sum.inl.inj z)), if_neg e]
      exact .cons r (c.repl rv n)
theorem Kvs.snoc {G : Hp} {v : V} {d : PD} (rv : Rp G v d) (n : Int) : ∀ {ks : List (Key × V)} {l : List (Int × PD)}, Kvs G ks l → Kvs G (ks ++ [(.inl n, v)]) (l ++ [(n, d)])
  | _, _, .nil => .cons rv .nil
  | _, _, .cons r c => .cons r (c.snoc rv n)
theorem Kvs.put {G : Hp} {v : V} {d : PD} {ks : List (Key × V)} {l : List (Int × PD)} (c : Kvs G ks l) (rv : Rp G v d) (n : Int) : Kvs G (putK ks (.inl n) v) (putD l n d) := by
  unfold putK putD
  rw [c.has n]
  by_cases h : hasD l n = true
  · rw [if_pos h, if_pos h]; exact c.repl rv n
  · rw [if_neg h, if_neg h]; exact c.snoc rv n
theorem Kvs.get {G : Hp} : ∀ {ks : List (Key × V)} {l : List (Int × PD)} {n : Int} {d : PD}, Kvs G ks l → getD l n = some d → ∃ v, valV ks (.inl n) = some v ∧ Rp G v d
  | _, _, _, _, .nil, h => nomatch h
  | _, _, n, d, .cons (k := k) (v := v) (d := d') (l := l) r c, h => by
    by_cases e : k = n
    · subst e
      have h : getD ((k, d') :: _) k = some d := h
      unfold getD at h
      rw [List.find?_cons] at h
      simp at h
      subst h
      exact ⟨v, valV_pos rfl, r⟩
    · have h2 : getD l n = some d := by
        unfold getD at h ⊢
        rw [List.find?_cons] at h
        simpa [e] using h
      obtain ⟨u, h3, h4⟩ := c.get h2
      exact ⟨u, by rw [valV_neg (fun z => e (Sum.inl.inj z))]; exact h3, h4⟩
theorem Kvs.len {G : Hp} : ∀ {ks : List (Key × V)} {l : List (Int × PD)}, Kvs G ks l → ks.length = l.length
  | _, _, .nil => rfl
  | _, _, .cons _ c => by rw [List.length_cons, List.length_cons, c.len]
section
variable {pn : Option V} {F : Hs} {T : Trs} {H : Hp} {σ : L2.St} {ρ : Env}
theorem StOk.at_dic (st : StOk pn F T H σ ρ) {i : Nat} {l : List (Int × PD)} (hi : ρ[i]? = some (.dic l)) : ∃ a ks, σ[i]? = some (some (.ref a)) ∧ H a = some (.dK ks) ∧ Kvs (hid (SF F T) H) ks l ∧ T i = [a] := by
  obtain ⟨o, h1, v, rfl, a, ks, rfl, h2, h3, h4⟩ := st.sl i _ hi
  exact ⟨a, ks, h1, h2, h3, h4⟩
/-- a new object, owned by a slot -/
theorem StOk.ownS {A : List Addr} (st : StOk pn (FL F A) T H σ ρ) {i : Nat} (hi0 : i ≠ 0) (hi : i < ρ.length) {v : V} {s : Sl} (o : SlOk (hid (SF (FL F A) T) H) H (some v) s A) (nd : A.Nodup) (off : ∀ x ∈ A, ¬ F x) :
    StOk pn F (setT T i A) H (σ.set i (some v)) (ρ.set i s) ∧ Ex (hid (SF (FL F A) T) H) (hid (SF F (setT T i A)) H) := by
  have sub : Ex (hid (SF (FL F A) T) H) (hid (SF F (setT T i A)) H) := hid_sub fun x h => h.elim (fun h => .inl (.inl h)) fun ⟨j, hj⟩ => by
    by_cases c : j = i
    · subst c; rw [setT_same] at hj; exact .inl (.inr hj)
    · rw [setT_ne c] at hj; exact .inr ⟨j, hj⟩
  have mem : ∀ j x, x ∈ setT T i A j → (j = i ∧ x ∈ A) ∨ (j ≠ i ∧ x ∈ T j) := fun j x h => by
    by_cases c : j = i
    · subst c; rw [setT_same] at h; exact .inl ⟨rfl, h⟩
    · rw [setT_ne c] at h; exact .inr ⟨c, h⟩
  refine ⟨⟨by rw [List.length_set, List.length_set]; exact st.len, fun x h => st.al x (.inl h), fun j x h => ?_, fun j k x h h' => ?_, fun j => ?_, fun j hj => ?_, fun j q hq => ?_, fun v hv => ?_⟩, sub⟩
  · rcases mem j x h with ⟨_, h⟩ | ⟨_, h⟩
    · exact off x h
    · exact fun z => st.off j x h (.inl z)
  · rcases mem j x h with ⟨e, h⟩ | ⟨e, h⟩
    · rcases mem k x h' with ⟨e', h'⟩ | ⟨e', h'⟩
      · rw [e, e']
      · exact absurd (.inr h) (st.off k x h')
    · rcases mem k x h' with ⟨e', h'⟩ | ⟨e', h'⟩
      · exact absurd (.inr h') (st.off j x h)
      · exact st.dis j k x h h'
  · by_cases c : j = i
    · subst c; rw [setT_same]; exact nd
    · rw [setT_ne c]; exact st.nd j
  · rw [List.length_set] at hj
    rw [setT_ne (by omega)]
    exact st.out j hj
  · by_cases c : i = j
    · subst c
      rw [List.getElem?_set_self hi] at hq
      cases hq
      rw [setT_same]
      exact ⟨some v, List.getElem?_set_self (by rw [st.len]; exact hi), o.mv sub fun _ _ => rfl⟩
    · rw [List.getElem?_set_ne c] at hq
      obtain ⟨o', h1, h2⟩ := st.sl j q hq
      rw [List.getElem?_set_ne c, setT_ne (fun z => c z.symm)]
      exact ⟨o', h1, h2.mv sub fun _ _ => rfl⟩
  · rw [List.getElem?_set_ne hi0]
    exact st.pin v hv
theorem StOk.writeD (st : StOk pn F T H σ ρ) {i : Nat} {l l' : List (Int × PD)} {a : Addr} {ks' : List (Key × V)} (hi : ρ[i]? = some (.dic l)) (hT : T i = [a]) (hσ : σ[i]? = some (some (.ref a))) (hc : Kvs (hid (SF F T) H) ks' l') :
    StOk pn F T (upd H a (.dK ks')) σ (ρ.set i (.dic l')) ∧ Stp F T H T (upd H a (.dK ks')) := by
  have ha : a ∈ T i := by rw [hT]; exact List.mem_cons_self ..
  have hS : SF F T a := .inr ⟨i, ha⟩
  have vis : Ex (hid (SF F T) H) (hid (SF F T) (upd H a (.dK ks'))) := fun x o h => by
    obtain ⟨c, h⟩ := hid_some h
    rw [hid_out c, upd_ne (fun z => c (by rw [z]; exact hS))]
    exact h
  have ne : ∀ x, x ≠ a → upd H a (.dK ks') x = H x := fun x h => upd_ne h
  refine ⟨⟨by rw [List.length_set]; exact st.len, fun x h => ?_, st.off, st.dis, st.nd, fun j hj => st.out j (by rw [List.length_set] at hj; exact hj), fun j q hq => ?_, st.pin⟩, ⟨fun x h => ne x fun z => st.off i a ha (by rw [← z]; exact h), vis⟩⟩
  · rw [ne x fun z => st.off i a ha (by rw [← z]; exact h)]
    exact st.al x h
  · by_cases c : i = j
    · subst c
      have hl : i < ρ.length := by
        have := (List.getElem?_eq_some_iff.mp hq).1
        simpa using this
      rw [List.getElem?_set_self hl] at hq
      cases hq
      exact ⟨_, hσ, .ref a, rfl, a, ks', rfl, upd_same, hc.ex vis, hT⟩
    · rw [List.getElem?_set_ne c] at hq
      obtain ⟨o', h1, h2⟩ := st.sl j q hq
      exact ⟨o', h1, h2.mv vis fun x hx => ne x fun z => c (st.dis i j a ha (by rw [← z]; exact hx))⟩
end
/-- x = {} -/
def sDNew (i : Nat) : XS := fun ρ => if i < ρ.length then some (.nxt (ρ.set i (.dic []))) else none
/-- k in x -/
def wDin (i : Nat) (k : XE) : XW := fun ρ => ((k (mk ρ)).bind isI).bind fun n => (dicAt ρ i).bind fun l => some (.bool (hasD l n), ρ)
def wDnot (i : Nat) (k : XE) : XW := fun ρ => ((k (mk ρ)).bind isI).bind fun n => (dicAt ρ i).bind fun l => some (.bool (!hasD l n), ρ)
/-- x[k] -/
def wDget (i : Nat) (k : XE) : XW := fun ρ => ((k (mk ρ)).bind isI).bind fun n => (dicAt ρ i).bind fun l => (getD l n).bind fun d => some (d, ρ)
/-- x[k] = e -/
def sDput (i : Nat) (k : XE) (a : XW) : XS := fun ρ => (a ρ).bind fun x => ((k (mk x.2)).bind isI).bind fun n => (dicAt x.2 i).bind fun l => if l.length < 100000 then some (.nxt (x.2.set i (.dic (putD l n x.1)))) else none
section
variable {tk te : TE} {k : XE} {w : XW}
theorem ss_dnew {i : Nat} (hi : i ≠ 0) : SS (tAsg tDNewK (gName i)) (sDNew i) := fun pn F T H σ ρ o D st e q => by
  unfold sDNew at e
  by_cases c : i < ρ.length
  · rw [if_pos c] at e
    cases e
    intro p hp
    have e1 : Ex H (upd H p (.dK [])) := Ex.new hp
    obtain ⟨st1, vis1⟩ := st.fresh e1 hp (by rw [upd_same]; exact fun z => nomatch z)
    have off : ∀ x ∈ [p], ¬ F x := fun x hx z => by
      have : x = p := by simpa using hx
      rw [this] at z
      exact st.al p z hp
    obtain ⟨st2, vis2⟩ := st1.ownS (s := .dic []) hi c (v := .ref p) ⟨.ref p, rfl, p, [], rfl, upd_same, .nil, rfl⟩ (by simp) off
    refine q _ _ _ st2 ⟨fun x hx => upd_ne fun z => ?_, vis1.trans vis2⟩
    rw [z] at hx
    exact st.al p hx hp
  · rw [if_neg c] at e; cases e
theorem dk_get {H2 : Hp} {a : Addr} {ks : List (Key × V)} (n : Int) (h : H2 a = some (.dK ks)) : DGet H2 a (.int n) (valV ks (.inl n)) := DGet.k (k := .inl n) h
theorem sw_din {i : Nat} (h : SE tk k) : SW (tDIn tk (tVar i)) (wDin i k) := fun pn F T H σ ρ d ρ' st e Q q => by
  obtain ⟨n, h1, e⟩ := bind_some e
  obtain ⟨dk, h1, h1'⟩ := bind_some h1
  obtain ⟨l, h2, e⟩ := bind_some e
  cases e
  have := isI_eq h1'
  subst this
  refine h _ _ h1 (SF F T) σ H st.als st.mkd _ fun v H1 e1 rv => ?_
  cases rv
  have st1 := st.ex e1
  obtain ⟨a, ks, ha, hk, hc, hT⟩ := st1.at_dic (dicAt_eq h2)
  refine ⟨.ref a, ha, a, valV ks (.inl n), rfl, dk_get n hk, ?_⟩
  rw [← valV_any, hc.has n]
  exact q _ T H1 st1 (Stp.ex st.al e1) (.bl _)
theorem sw_dnot {i : Nat} (h : SE tk k) : SW (tDNotIn tk (tVar i)) (wDnot i k) := fun pn F T H σ ρ d ρ' st e Q q => by
  obtain ⟨n, h1, e⟩ := bind_some e
  obtain ⟨dk, h1, h1'⟩ := bind_some h1
  obtain ⟨l, h2, e⟩ := bind_some e
  cases e
  have := isI_eq h1'
  subst this
  refine h _ _ h1 (SF F T) σ H st.als st.mkd _ fun v H1 e1 rv => ?_
  cases rv
  have st1 := st.ex e1
  obtain ⟨a, ks, ha, hk, hc, hT⟩ := st1.at_dic (dicAt_eq h2)
  refine ⟨.ref a, ha, a, valV ks (.inl n), rfl, dk_get n hk, ?_⟩
  rw [← valV_any, hc.has n]
  exact q _ T H1 st1 (Stp.ex st.al e1) (.bl _)
theorem sw_dget {i : Nat} (h : SE tk k) : SW (tDGet (tVar i) tk) (wDget i k) := fun pn F T H σ ρ d ρ' st e Q q => by
  obtain ⟨n, h1, e⟩ := bind_some e
  obtain ⟨dk, h1, h1'⟩ := bind_some h1
  obtain ⟨l, h2, e⟩ := bind_some e
  obtain ⟨d', h3, e⟩ := bind_some e
  cases e
  have := isI_eq h1'
  subst this
  obtain ⟨a, ks, ha, hk, hc, hT⟩ := st.at_dic (dicAt_eq h2)
  refine ⟨.ref a, ha, ?_⟩
  refine h _ _ h1 (SF F T) σ H st.als st.mkd _ fun v H1 e1 rv => ?_
  cases rv
  have st1 := st.ex e1
  obtain ⟨a', ks', ha', hk', hc', hT'⟩ := st1.at_dic (dicAt_eq h2)
  have ea : a' = a := by rw [ha'] at ha; cases ha; rfl
  subst ea
  obtain ⟨u, h4, ru⟩ := hc'.get h3
  have g := dk_get n hk'
  rw [h4] at g
  exact ⟨a', u, rfl, g, q _ T H1 st1 (Stp.ex st.al e1) ru⟩
theorem ss_dput {i : Nat} (h : SW te w) (hk : SE tk k) : SS (L2.sDPut (tVar i) tk te) (sDput i k w) := fun pn F T H σ ρ o D st e q => by
  obtain ⟨⟨d, ρ1⟩, h1, e⟩ := bind_some e
  obtain ⟨n, h2, e⟩ := bind_some e
  obtain ⟨dk, h2, h2'⟩ := bind_some h2
  obtain ⟨l, h3, e⟩ := bind_some e
  have := isI_eq h2'
  subst this
  by_cases c : l.length < 100000
  · have e : (if l.length < 100000 then some (Out.nxt (ρ1.set i (.dic (putD l n d)))) else none) = some o := e
    rw [if_pos c] at e
    cases e
    refine h pn F T H σ ρ d ρ1 st h1 _ fun v T1 H1 st1 s1 rv => ?_
    obtain ⟨a, ks, ha, hv, hc, hT⟩ := st1.at_dic (dicAt_eq h3)
    refine ⟨.ref a, ha, ?_⟩
    refine hk _ _ h2 (SF F T1) σ H1 st1.als st1.mkd _ fun u H2 e2 ru => ?_
    cases ru
    have st2 := st1.ex e2
    have s2 : Stp F T1 H1 T1 H2 := Stp.ex st1.al e2
    obtain ⟨a', ks', ha', hv', hc', hT'⟩ := st2.at_dic (dicAt_eq h3)
    have ea : a' = a := by rw [ha'] at ha; cases ha; rfl
    subst ea
    obtain ⟨st3, s3⟩ := st2.writeD (dicAt_eq h3) hT' ha' (hc'.put (rv.ex (hid_ex e2)) n)
    exact ⟨a', _, rfl, DPut.k (k := .inl n) hv' (by rw [hc'.len]; exact Evl.sz_lt c), q σ T1 _ st3 ((s1.trans s2).trans s3)⟩
  · have e : (if l.length < 100000 then some (Out.nxt (ρ1.set i (.dic (putD l n d)))) else none) = some o := e
    rw [if_neg c] at e; cases e
end
end Uv

namespace Uv
open PySem PySem.Spec PyProof.Rows L2
open Evl (Ex)
variable [kk : KK]
/-! ### a def that draws, is lent a list, and gives a new one -/
def runV (n k : Nat) (X : XS) (cs : List Cel) (ds : List PD) : Option (List Cel × List Cel) := if ds.length = n then (X (.own cs :: (ds.map Sl.dat ++ List.replicate k Sl.un))).bind fun o => match o with
  | .retO r ρ => (ownAt ρ 0).bind fun cs' => some (r, cs')
  | _ => none else none
def spV (g : List Cel → List PD → Option (List Cel × List Cel)) : Sp := fun vs H Q _ => ∃ (F : Hs) (a : Addr) (B : List Addr) (cs : List Cel) (ws : List V) (ds : List PD) (r cs' : List Cel), vs = .ref a :: ws ∧ Al F H ∧ (∀ x ∈ a :: B, ¬ F x) ∧ (a :: B).Nodup ∧
  Own (hid (FL F (a :: B)) H) H (.ref a) cs (a :: B) ∧ RpAll (hid (FL F (a :: B)) H) ws ds ∧ g cs ds = some (r, cs') ∧
  ∀ v A B' H', (∀ x, F x → H' x = H x) → Ex (hid (FL F (a :: B)) H) (hid (FL (FL F A) (a :: B')) H') → (∀ x ∈ a :: B', ¬ FL F A x) → (a :: B').Nodup → A.Nodup → (∀ x ∈ A, ¬ F x) → Own (hid (FL (FL F A) (a :: B')) H') H' (.ref a) cs' (a :: B') → Own (hid (FL (FL F A) (a :: B')) H') H' v r A → Q v H'
theorem len_V {n k : Nat} {X : XS} {vs : List V} {H : Hp} {Q : VK} {E : XK} (h : spV (runV n k X) vs H Q E) : vs.length = n + 1 := by
  obtain ⟨_, _, _, _, ws, ds, _, _, rfl, _, _, _, _, ra, h, _⟩ := h
  unfold runV at h
  by_cases hn : ds.length = n
  · rw [List.length_cons, ra.length, hn]
  · rw [if_neg hn] at h; cases h
theorem go_V {t : TS} {X : XS} {N : List Str} {vs : List V} {H : Hp} {Q : VK} {E : XK} {n k : Nat} (hX : SS t X) (hN : N.length = n + 1 + k) (hs : spV (runV n k X) vs H Q E) : t { nx := fun _ H' => Q .non H', rt := Q } (L2.start N vs) H := by
  obtain ⟨F, a, B, cs, ws, ds, d, cs', rfl, al, off, nd, ow, ra, h, q⟩ := hs
  unfold runV at h
  by_cases hn : ds.length = n
  · rw [if_pos hn] at h
    obtain ⟨o, h1, h⟩ := bind_some h
    obtain ⟨T, hT⟩ : ∃ T : Trs, T = fun i => if i = 0 then a :: B else [] := ⟨_, rfl⟩
    have T0 : T 0 = a :: B := by rw [hT]; rfl
    have TS : ∀ i, i ≠ 0 → T i = [] := fun i hi => by rw [hT]; exact if_neg hi
    have eqv : ∀ x, FL F (a :: B) x ↔ SF F T x := fun x => by
      constructor
      · rintro (z | z)
        · exact .inl z
        · exact .inr ⟨0, by rw [T0]; exact z⟩
      · rintro (z | ⟨i, z⟩)
        · exact .inl z
        · by_cases c : i = 0
          · subst c; rw [T0] at z; exact .inr z
          · rw [TS i c] at z; cases z
    have eh : hid (FL F (a :: B)) H = hid (SF F T) H := hid_eq eqv
    have e : N.length - (V.ref a :: ws).length = k := by rw [List.length_cons, ra.length, hN, hn]; omega
    have st : StOk (some (.ref a)) F T H (L2.start N (.ref a :: ws)) (.own cs :: (ds.map Sl.dat ++ List.replicate k Sl.un)) := by
      have mem : ∀ i x, x ∈ T i → i = 0 ∧ x ∈ a :: B := fun i x hx => by
        by_cases c : i = 0
        · subst c; rw [T0] at hx; exact ⟨rfl, hx⟩
        · rw [TS i c] at hx; cases hx
      refine ⟨?_, al, fun i x hx => off x (mem i x hx).2, fun i j x hx hy => (mem i x hx).1.trans (mem j x hy).1.symm, fun i => ?_, fun i hi => TS i (by rw [List.length_cons] at hi; omega), fun i s hi => ?_, fun v hv => ?_⟩
      · unfold L2.start
        rw [e]
        simp only [List.map_cons, List.cons_append, List.length_cons, List.length_append, List.length_map, List.length_replicate]
        rw [ra.length]
      · by_cases c : i = 0
        · subst c; rw [T0]; exact nd
        · rw [TS i c]; exact List.nodup_nil
      · unfold L2.start
        rw [e]
        cases i with
        | zero =>
          cases hi
          rw [T0]
          exact ⟨_, rfl, _, rfl, by rw [← eh]; exact ow⟩
        | succ i =>
          rw [TS _ (Nat.succ_ne_zero i)]
          have hi : (ds.map Sl.dat ++ List.replicate k Sl.un)[i]? = some s := hi
          show ∃ o, (ws.map some ++ List.replicate k none)[i]? = some o ∧ _
          by_cases c : i < ds.length
          · rw [List.getElem?_append_left (by rw [List.length_map]; exact c), List.getElem?_map, List.getElem?_eq_getElem c] at hi
            cases hi
            obtain ⟨v, k1, k2⟩ := ra.get (List.getElem?_eq_getElem c)
            refine ⟨some v, ?_, rfl, v, rfl, by rw [← eh]; exact k2⟩
            rw [List.getElem?_append_left (by rw [List.length_map, ra.length]; exact c), List.getElem?_map, k1]
            rfl
          · rw [List.getElem?_append_right (by rw [List.length_map]; omega), List.getElem?_replicate] at hi
            rw [List.getElem?_append_right (by rw [List.length_map, ra.length]; omega), List.getElem?_replicate]
            rw [List.length_map] at hi ⊢
            rw [ra.length]
            split at hi
            · rename_i c2
              cases hi
              exact ⟨none, by rw [if_pos c2], rfl⟩
            · cases hi
      · cases hv
        unfold L2.start
        rfl
    refine hX (some (.ref a)) F T H _ _ o _ st h1 ?_
    cases o with
    | retO r1 ρ1 =>
      obtain ⟨c1, k1, k2⟩ := bind_some h
      intro v A σ T' H' st' ndA offA fr vis owR
      have k2 : (r1, c1) = (d, cs') := Option.some.inj k2
      cases k2
      obtain ⟨a', us, B', g1, g2, g3, g4⟩ := st'.at_own (ownAt_eq k1)
      have hp := st'.pin _ rfl
      have ea : a' = a := by rw [g1] at hp; cases hp; rfl
      subst ea
      have sub : Ex (hid (SF (FL F A) T') H') (hid (FL (FL F A) (a' :: B')) H') := hid_sub fun x hx => hx.elim .inl fun z => .inr ⟨0, by rw [g4]; exact z⟩
      exact q v A B' H' fr (by rw [eh]; exact vis.trans sub) (fun x hx => st'.off 0 x (by rw [g4]; exact hx)) (by rw [← g4]; exact st'.nd 0) ndA offA ⟨a', us, B', rfl, g2, g3.mv sub fun _ _ => rfl, rfl⟩ (owR.mv sub fun _ _ => rfl)
    | ret _ _ => cases h
    | nxt _ => cases h
    | brk _ => cases h
    | cnt _ => cases h
  · rw [if_neg hn] at h; cases h
/-- no list within, but those that are owned -/
def flatC : List Cel → Bool
  | [] => true
  | .dat d :: r => flat d && flatC r
  | .sub ds :: r => flats ds && flatC r
theorem Cels.flat {G G' H : Hp} (e : ∀ x o u, G x = some (.frz o u) → G' x = some (.frz o u)) : ∀ {vs : List V} {cs : List Cel} {B : List Addr}, flatC cs = true → Cels G H vs cs B → Cels G' H vs cs B
  | _, _, _, _, .nil => .nil
  | _, _, _, f, .dat r c => by
    rw [flatC, Bool.and_eq_true] at f
    exact .dat (Rp.flat e r f.1) (c.flat e f.2)
  | _, _, _, f, .sub hb r c => by
    rw [flatC, Bool.and_eq_true] at f
    exact .sub hb (RpAll.flat e r f.1) (c.flat e f.2)
theorem Own.flat {G G' H : Hp} (e : ∀ x o u, G x = some (.frz o u) → G' x = some (.frz o u)) {v : V} {cs : List Cel} {A : List Addr} (f : flatC cs = true) (o : Own G H v cs A) : Own G' H v cs A := by
  obtain ⟨a, vs, B, rfl, ha, c, rfl⟩ := o
  exact ⟨a, vs, B, rfl, ha, c.flat e f, rfl⟩
/-- f(deck, e, xs): xs is a list of the caller's own, only looked at -/
def wCallV (i m : Nat) (g : List Cel → List PD → Option (List Cel × List Cel)) (a : XW) : XWO := fun ρ => (ownAt ρ i).bind fun _ => (a ρ).bind fun x => (ownAt x.2 i).bind fun cs => (ownAt x.2 m).bind fun ms => (allDat ms).bind fun ds => (g cs [x.1, .list ds]).bind fun y => if flatC y.1 = true ∧ flatC y.2 = true then some (y.1, x.2.set i (.own y.2)) else none
theorem swo_callV {i m : Nat} {g : List Cel → List PD → Option (List Cel × List Cel)} {ta : TE} {w : XW} (him : m ≠ i) (hw : SW ta w) : SWO (tCall (spV g) [] E0 (tCons (tVar i) (tCons ta (tCons (tVar m) tNil)))) (wCallV i m g w) := fun pn F T H σ ρ r ρ' st e Q q => by
  obtain ⟨cs0, h0, e⟩ := bind_some e
  obtain ⟨⟨d, ρ1⟩, h1, e⟩ := bind_some e
  obtain ⟨cs, hi, e⟩ := bind_some e
  obtain ⟨ms, hm, e⟩ := bind_some e
  obtain ⟨ds, hd, e⟩ := bind_some e
  obtain ⟨⟨z, cs'⟩, h3, e⟩ := bind_some e
  have hi : ρ1[i]? = some (.own cs) := ownAt_eq hi
  have hm : ρ1[m]? = some (.own (ds.map Cel.dat)) := by rw [← allDat_eq hd]; exact ownAt_eq hm
  have e : (if flatC z = true ∧ flatC cs' = true then some (z, ρ1.set i (.own cs')) else none) = some (r, ρ') := e
  by_cases fl : flatC z = true ∧ flatC cs' = true
  rotate_left
  · rw [if_neg fl] at e; cases e
  rw [if_pos fl] at e
  obtain ⟨rfl, rfl⟩ := Prod.mk.inj (Option.some.inj e)
  obtain ⟨a, _, _, ha, _⟩ := st.at_own (ownAt_eq h0)
  refine ⟨.ref a, ha, hw pn F T H σ ρ d ρ1 st h1 _ fun vd T1 H1 st1 s1 rd => ?_⟩
  obtain ⟨a', us, B, ha', hl, hc, hT⟩ := st1.at_own hi
  have ea : a' = a := by rw [ha'] at ha; cases ha; rfl
  subst ea
  obtain ⟨b, vs, Bm, hb, hlb, hcb, hTm⟩ := st1.at_own hm
  obtain ⟨rb, eB⟩ := hcb.dats_inv
  subst eB
  refine ⟨.ref b, hb, ?_⟩
  show spV g ([.ref a', vd, .ref b] ++ []) H1 Q E0
  rw [List.append_nil]
  obtain ⟨F1, hF1⟩ : ∃ F1 : Hs, F1 = fun x => F x ∨ ∃ j, j ≠ i ∧ j ≠ m ∧ x ∈ T1 j := ⟨_, rfl⟩
  have f1 : ∀ x, FL F1 (a' :: B) x → SF F T1 x := fun x => by
    rw [hF1]
    rintro ((h | ⟨j, _, _, h⟩) | h)
    · exact .inl h
    · exact .inr ⟨j, h⟩
    · exact .inr ⟨i, by rw [hT]; exact h⟩
  have bT : b ∈ T1 m := by rw [hTm]; exact List.mem_cons_self ..
  have bn : ¬ FL F1 (a' :: B) b := by
    rw [hF1]
    rintro ((h | ⟨j, _, c, h⟩) | h)
    · exact st1.off m b bT h
    · exact c (st1.dis j m b h bT)
    · exact him (st1.dis m i b bT (by rw [hT]; exact h))
  have sub : Ex (hid (SF F T1) H1) (hid (FL F1 (a' :: B)) H1) := hid_sub f1
  refine ⟨F1, a', B, cs, [vd, .ref b], [d, .list ds], z, cs', rfl, ?_, ?_, by rw [← hT]; exact st1.nd i, ⟨a', us, B, rfl, hl, hc.mv sub fun _ _ => rfl, rfl⟩, .cons (rd.ex sub) (.cons (.lst (by rw [hid_out bn]; exact hlb) (rb.ex sub)) .nil), h3, fun v A B' H' fr vis off nd ndA offA owD owR => ?_⟩
  · intro x hx
    rw [hF1] at hx
    exact st1.als x (hx.elim .inl fun ⟨j, _, _, h⟩ => .inr ⟨j, h⟩)
  · intro x hx hx2
    rw [hF1] at hx2
    have hx3 : x ∈ T1 i := by rw [hT]; exact hx
    rcases hx2 with h | ⟨j, c, _, h⟩
    · exact st1.off i x hx3 h
    · exact c (st1.dis j i x h hx3)
  · -- the lent list stands as it was, and is no part of what came
    have hvis : hid (FL F1 (a' :: B)) H1 b = some (.lst vs) := by rw [hid_out bn]; exact hlb
    obtain ⟨bn', hb'⟩ := hid_some (vis b _ hvis)
    have il : i < ρ1.length := (List.getElem?_eq_some_iff.mp hi).1
    have inm : ∀ x, x ∈ T1 m → x = b := fun x hx => by rw [hTm] at hx; simpa using hx
    have F1' : ∀ j x, j ≠ i → j ≠ m → x ∈ T1 j → F1 x := fun j x c1 c2 hx => by rw [hF1]; exact .inr ⟨j, c1, c2, hx⟩
    have FF : ∀ x, F x → F1 x := fun x hx => by rw [hF1]; exact .inl hx
    have up : ∀ x, SF (FL F A) (setT T1 i (a' :: B')) x → FL (FL F1 A) (a' :: B') x ∨ x = b := fun x => by
      rintro ((h | h) | ⟨j, h⟩)
      · exact .inl (.inl (.inl (FF x h)))
      · exact .inl (.inl (.inr h))
      · by_cases c : j = i
        · subst c; rw [setT_same] at h; exact .inl (.inr h)
        · rw [setT_ne c] at h
          by_cases c2 : j = m
          · subst c2; exact .inr (inm x h)
          · exact .inl (.inl (.inl (F1' j x c c2 h)))
    have dn : ∀ x, FL (FL F1 A) (a' :: B') x → SF (FL F A) (setT T1 i (a' :: B')) x := fun x => by
      rintro ((h | h) | h)
      · rw [hF1] at h
        rcases h with h | ⟨j, c, _, h⟩
        · exact .inl (.inl h)
        · exact .inr ⟨j, by rw [setT_ne c]; exact h⟩
      · exact .inl (.inr h)
      · exact .inr ⟨i, by rw [setT_same]; exact h⟩
    have vis' : Ex (hid (SF F T1) H1) (hid (SF (FL F A) (setT T1 i (a' :: B'))) H') := fun x o hx => by
      obtain ⟨c, hx⟩ := hid_some hx
      obtain ⟨c', hx'⟩ := hid_some (vis x o (by rw [hid_out fun z => c (f1 x z)]; exact hx))
      rw [hid_out]
      · exact hx'
      · intro z
        rcases up x z with z | z
        · exact c' z
        · subst z; exact c (.inr ⟨m, bT⟩)
    have keep : ∀ j x, j ≠ i → x ∈ T1 j → H' x = H1 x := fun j x c hx => by
      by_cases c2 : j = m
      · subst c2
        rw [inm x hx, hb', hlb]
      · exact fr x (F1' j x c c2 hx)
    have fz : ∀ x o u, hid (FL (FL F1 A) (a' :: B')) H' x = some (.frz o u) → hid (SF (FL F A) (setT T1 i (a' :: B'))) H' x = some (.frz o u) := fun x o u h => by
      obtain ⟨c, h⟩ := hid_some h
      rw [hid_out]
      · exact h
      · intro y
        rcases up x y with y | y
        · exact c y
        · subst y
          rw [hb'] at h
          cases h
    refine q v A (setT T1 i (a' :: B')) H' ⟨by rw [List.length_set]; exact st1.len, fun x hx => ?_, fun j x h => ?_, fun j k x h h' => ?_, fun j => ?_, fun j hj => ?_, fun j s hs => ?_, st1.pin⟩ ndA (fun x hx z => offA x hx (FF x z)) (fun x hx => (fr x (FF x hx)).trans (s1.fr x hx)) (s1.vis.trans vis') (owR.flat fz fl.1)
    · rcases hx with hx | hx
      · rw [fr x (FF x hx)]; exact st1.al x hx
      · obtain ⟨ws, g⟩ := owR.lst x hx
        intro y
        rw [g] at y
        cases y
    · by_cases c : j = i
      · subst c
        rw [setT_same] at h
        rintro (y | y)
        · exact off x h (.inl (FF x y))
        · exact off x h (.inr y)
      · rw [setT_ne c] at h
        rintro (y | y)
        · exact st1.off j x h y
        · by_cases c2 : j = m
          · subst c2
            rw [inm x h] at y
            exact bn' (.inl (.inr y))
          · exact offA x y (F1' j x c c2 h)
    · have one : ∀ j x, j ≠ i → x ∈ T1 j → x ∈ a' :: B' → False := fun j x c hx hy => by
        by_cases c2 : j = m
        · subst c2
          rw [inm x hx] at hy
          exact bn' (.inr hy)
        · exact off x hy (.inl (F1' j x c c2 hx))
      by_cases c : j = i
      · subst c
        rw [setT_same] at h
        by_cases c2 : k = j
        · exact c2.symm
        · rw [setT_ne c2] at h'
          exact absurd h fun h => one k x c2 h' h
      · rw [setT_ne c] at h
        by_cases c2 : k = i
        · subst c2
          rw [setT_same] at h'
          exact absurd h' fun h' => one j x c h h'
        · rw [setT_ne c2] at h'
          exact st1.dis j k x h h'
    · by_cases c : j = i
      · subst c; rw [setT_same]; exact nd
      · rw [setT_ne c]; exact st1.nd j
    · rw [List.length_set] at hj
      rw [setT_ne (by omega)]
      exact st1.out j hj
    · by_cases c : i = j
      · subst c
        rw [List.getElem?_set_self il] at hs
        cases hs
        rw [setT_same]
        exact ⟨_, ha', _, rfl, owD.flat fz fl.2⟩
      · rw [List.getElem?_set_ne c] at hs
        obtain ⟨o, g1, g2⟩ := st1.sl j s hs
        rw [setT_ne (fun y => c y.symm)]
        exact ⟨o, g1, g2.mv vis' fun x hx => keep j x (fun y => c y.symm) hx⟩
theorem sof_repV : SOF (rMulV K) repP := fun x y z h => by
  obtain ⟨ds, e, r⟩ := sof_rep x y z h
  exact ⟨ds, e, fun S H vx vy al rx ry Q q => .inl (r S H vx vy al rx ry Q q)⟩
end Uv

namespace Uv
open PySem PySem.Spec PyProof.Rows L2
/-! ### what holds behind a partial value -/
/-- a thing that simp doesn't go into -/
def Tag {α : Type} (x : α) : Type := Unit
def tag {α : Type} (x : α) : Tag x := ()
def wp {α : Type} (o : Option α) {Q : α → Prop} (_ : Tag Q) : Prop := ∃ a, o = some a ∧ Q a
@[simp] theorem wp_some {α : Type} {a : α} {Q : α → Prop} : wp (some a) (tag Q) = Q a := propext ⟨fun ⟨b, e, q⟩ => by cases e; exact q, fun q => ⟨a, rfl, q⟩⟩
@[simp] theorem wp_none {α : Type} {Q : α → Prop} : wp none (tag Q) = False := propext ⟨fun ⟨b, e, q⟩ => (nomatch e), fun q => q.elim⟩
@[simp] theorem wp_bind {α β : Type} {o : Option α} {f : α → Option β} {Q : β → Prop} : wp (o.bind f) (tag Q) = wp o (tag fun a => wp (f a) (tag Q)) := propext (by
  cases o with
  | none => simp
  | some a => simp)
theorem wp_mono {α : Type} {o : Option α} {Q R : α → Prop} (h : wp o (tag Q)) (hq : ∀ a, Q a → R a) : wp o (tag R) := let ⟨a, e, q⟩ := h; ⟨a, e, hq a q⟩
theorem wp_eq {α : Type} {o : Option α} {a : α} : wp o (tag fun x => x = a) ↔ o = some a := ⟨fun ⟨b, e, q⟩ => by rw [e, q], fun e => ⟨a, e, rfl⟩⟩
theorem wp_of {α : Type} {o : Option α} {a : α} {Q : α → Prop} (e : o = some a) (q : Q a) : wp o (tag Q) := ⟨a, e, q⟩
/-- one of two, by a truth; only the truth is looked into -/
def alt {α : Type} (b : Bool) {x y : Option α} (_ : Tag x) (_ : Tag y) : Option α := if b = true then x else y
@[simp] theorem alt_t {α : Type} {x y : Option α} : alt true (tag x) (tag y) = x := (rfl)
@[simp] theorem alt_f {α : Type} {x y : Option α} : alt false (tag x) (tag y) = y := (rfl)
theorem wp_alt {α : Type} {b : Bool} {x y : Option α} {Q : α → Prop} (h1 : b = true → wp x (tag Q)) (h2 : b = false → wp y (tag Q)) : wp (alt b (tag x) (tag y)) (tag Q) := by cases b; exact h2 rfl; exact h1 rfl
theorem wp_altd {α : Type} {c : Prop} [Decidable c] {x y : Option α} {Q : α → Prop} (h1 : c → wp x (tag Q)) (h2 : ¬ c → wp y (tag Q)) : wp (alt (decide c) (tag x) (tag y)) (tag Q) := wp_alt (fun h => h1 (of_decide_eq_true h)) (fun h => h2 (of_decide_eq_false h))
def orO (b : Bool) (x : Option Bool) : Option Bool := if b = true then some true else x
def andO (b : Bool) (x : Option Bool) : Option Bool := if b = true then x else some false
def orV (b : Bool) (x : Option PD) : Option PD := if b = true then some (.bool true) else x
def andV (b : Bool) (x : Option PD) : Option PD := if b = true then x else some (.bool false)
@[simp] theorem orO_s {b c : Bool} : orO b (some c) = some (b || c) := by cases b <;> rfl
@[simp] theorem andO_s {b c : Bool} : andO b (some c) = some (b && c) := by cases b <;> rfl
@[simp] theorem orV_s {b c : Bool} : orV b (some (.bool c)) = some (.bool (b || c)) := by cases b <;> rfl
@[simp] theorem andV_s {b c : Bool} : andV b (some (.bool c)) = some (.bool (b && c)) := by cases b <;> rfl
@[simp] theorem orO_t {x : Option Bool} : orO true x = some true := (rfl)
@[simp] theorem orO_f {x : Option Bool} : orO false x = x := (rfl)
@[simp] theorem andO_t {x : Option Bool} : andO true x = x := (rfl)
@[simp] theorem andO_f {x : Option Bool} : andO false x = some false := (rfl)
@[simp] theorem orV_t {x : Option PD} : orV true x = some (.bool true) := (rfl)
@[simp] theorem orV_f {x : Option PD} : orV false x = x := (rfl)
@[simp] theorem andV_t {x : Option PD} : andV true x = x := (rfl)
@[simp] theorem andV_f {x : Option PD} : andV false x = some (.bool false) := (rfl)
theorem wp_orO {b : Bool} {x : Option Bool} {Q : Bool → Prop} (h1 : b = true → Q true) (h2 : b = false → wp x (tag Q)) : wp (orO b x) (tag Q) := by cases b; exact h2 rfl; simpa using h1 rfl
theorem wp_andO {b : Bool} {x : Option Bool} {Q : Bool → Prop} (h1 : b = true → wp x (tag Q)) (h2 : b = false → Q false) : wp (andO b x) (tag Q) := by cases b; simpa using h2 rfl; exact h1 rfl
theorem wp_orV {b : Bool} {x : Option PD} {Q : PD → Prop} (h1 : b = true → Q (.bool true)) (h2 : b = false → wp x (tag Q)) : wp (orV b x) (tag Q) := by cases b; exact h2 rfl; simpa using h1 rfl
theorem wp_andV {b : Bool} {x : Option PD} {Q : PD → Prop} (h1 : b = true → wp x (tag Q)) (h2 : b = false → Q (.bool false)) : wp (andV b x) (tag Q) := by cases b; simpa using h2 rfl; exact h1 rfl
/-- only where something holds -/
noncomputable def grd {α : Type} (c : Prop) (x : Option α) : Option α := open Classical in if c then x else none
theorem grd_ite {α : Type} {c : Prop} [Decidable c] {x : Option α} : (if c then x else none) = grd c x := by
  unfold grd
  by_cases h : c
  · rw [if_pos h, if_pos h]
  · rw [if_neg h, if_neg h]
theorem grd_pos {α : Type} {c : Prop} {x : Option α} (h : c) : grd c x = x := if_pos h
theorem grd_iff {α : Type} {c c' : Prop} {x : Option α} (h : c ↔ c') : grd c x = grd c' x := by rw [propext h]
@[simp] theorem grd_true {α : Type} {x : Option α} : grd True x = x := grd_pos trivial
@[simp] theorem wp_grd {α : Type} {c : Prop} {x : Option α} {Q : α → Prop} : wp (grd c x) (tag Q) = (c ∧ wp x (tag Q)) := by
  by_cases h : c
  · rw [grd_pos h]; simp [h]
  · unfold grd; rw [if_neg h]; simp [h]
@[simp] theorem bind_some' {α β : Type} {x : α} {f : α → Option β} : (some x).bind f = f x := (rfl)
def seqK (y : XS) : Out → Option Out
  | .nxt ρ => y ρ
  | o => some o
@[simp] theorem q_sSeq {x y : XS} {ρ : Env} : sSeq x y ρ = (x ρ).bind (seqK y) := by
  unfold sSeq
  congr 1
@[simp] theorem seqK_nxt {y : XS} {ρ : Env} : seqK y (.nxt ρ) = y ρ := (rfl)
@[simp] theorem seqK_ret {y : XS} {d : PD} {ρ : Env} : seqK y (.ret d ρ) = some (.ret d ρ) := (rfl)
@[simp] theorem seqK_retO {y : XS} {d : List Cel} {ρ : Env} : seqK y (.retO d ρ) = some (.retO d ρ) := (rfl)
@[simp] theorem seqK_brk {y : XS} {ρ : Env} : seqK y (.brk ρ) = some (.brk ρ) := (rfl)
@[simp] theorem seqK_cnt {y : XS} {ρ : Env} : seqK y (.cnt ρ) = some (.cnt ρ) := (rfl)

/-! ### numbers within bounds; not looked into -/
structure In62 (j : Int) : Prop where
  lo : -(2 ^ 62) ≤ j
  hi : j < 2 ^ 62
structure In63 (j : Int) : Prop where
  lo : -(2 ^ 63) < j
  hi : j < 2 ^ 63
structure In63e (j : Int) : Prop where
  lo : -(2 ^ 63) ≤ j
  hi : j < 2 ^ 63
theorem in63e_nat {n : Nat} (h : n < 1000000000000) : In63e (n : Int) := ⟨by omega, by omega⟩
structure In64 (j : Int) : Prop where
  lo : -(2 ^ 64) < j
  hi : j < 2 ^ 64
theorem in62_nat {n : Nat} (h : n < 1000000000000) : In62 (n : Int) := ⟨by omega, by omega⟩
theorem in63_nat {n : Nat} (h : n < 1000000000000) : In63 (n : Int) := ⟨by omega, by omega⟩
theorem in64_nat {n : Nat} (h : n < 1000000000000) : In64 (n : Int) := ⟨by omega, by omega⟩
/-- a divisor -/
structure Dvr (j : Int) : Prop where
  lo : 0 < j
  hi : j < 2 ^ 64
@[simp] theorem in62_l0 : In62 0 = True := eq_true ⟨by decide, by decide⟩
@[simp] theorem in63_l0 : In63 0 = True := eq_true ⟨by decide, by decide⟩
@[simp] theorem in63e_l0 : In63e 0 = True := eq_true ⟨by decide, by decide⟩
@[simp] theorem in64_l0 : In64 0 = True := eq_true ⟨by decide, by decide⟩
@[simp] theorem in62_l1 : In62 1 = True := eq_true ⟨by decide, by decide⟩
@[simp] theorem in63_l1 : In63 1 = True := eq_true ⟨by decide, by decide⟩
@[simp] theorem in63e_l1 : In63e 1 = True := eq_true ⟨by decide, by decide⟩
@[simp] theorem in64_l1 : In64 1 = True := eq_true ⟨by decide, by decide⟩
@[simp] theorem dvr_l1 : Dvr 1 = True := eq_true ⟨by decide, by decide⟩
@[simp] theorem in62_l2 : In62 2 = True := eq_true ⟨by decide, by decide⟩
@[simp] theorem in63_l2 : In63 2 = True := eq_true ⟨by decide, by decide⟩
@[simp] theorem in63e_l2 : In63e 2 = True := eq_true ⟨by decide, by decide⟩
@[simp] theorem in64_l2 : In64 2 = True := eq_true ⟨by decide, by decide⟩
@[simp] theorem dvr_l2 : Dvr 2 = True := eq_true ⟨by decide, by decide⟩
@[simp] theorem in62_l3 : In62 3 = True := eq_true ⟨by decide, by decide⟩
@[simp] theorem in63_l3 : In63 3 = True := eq_true ⟨by decide, by decide⟩
@[simp] theorem in63e_l3 : In63e 3 = True := eq_true ⟨by decide, by decide⟩
@[simp] theorem in64_l3 : In64 3 = True := eq_true ⟨by decide, by decide⟩
@[simp] theorem dvr_l3 : Dvr 3 = True := eq_true ⟨by decide, by decide⟩
@[simp] theorem in62_l4 : In62 4 = True := eq_true ⟨by decide, by decide⟩
@[simp] theorem in63_l4 : In63 4 = True := eq_true ⟨by decide, by decide⟩
@[simp] theorem in63e_l4 : In63e 4 = True := eq_true ⟨by decide, by decide⟩
@[simp] theorem in64_l4 : In64 4 = True := eq_true ⟨by decide, by decide⟩
@[simp] theorem dvr_l4 : Dvr 4 = True := eq_true ⟨by decide, by decide⟩
@[simp] theorem in62_l5 : In62 5 = True := eq_true ⟨by decide, by decide⟩
@[simp] theorem in63_l5 : In63 5 = True := eq_true ⟨by decide, by decide⟩
@[simp] theorem in63e_l5 : In63e 5 = True := eq_true ⟨by decide, by decide⟩
@[simp] theorem in64_l5 : In64 5 = True := eq_true ⟨by decide, by decide⟩
@[simp] theorem dvr_l5 : Dvr 5 = True := eq_true ⟨by decide, by decide⟩
@[simp] theorem in62_l6 : In62 6 = True := eq_true ⟨by decide, by decide⟩
@[simp] theorem in63_l6 : In63 6 = True := eq_true ⟨by decide, by decide⟩
@[simp] theorem in63e_l6 : In63e 6 = True := eq_true ⟨by decide, by decide⟩
@[simp] theorem in64_l6 : In64 6 = True := eq_true ⟨by decide, by decide⟩
@[simp] theorem dvr_l6 : Dvr 6 = True := eq_true ⟨by decide, by decide⟩
@[simp] theorem in62_l7 : In62 7 = True := eq_true ⟨by decide, by decide⟩
@[simp] theorem in63_l7 : In63 7 = True := eq_true ⟨by decide, by decide⟩
@[simp] theorem in63e_l7 : In63e 7 = True := eq_true ⟨by decide, by decide⟩
@[simp] theorem in64_l7 : In64 7 = True := eq_true ⟨by decide, by decide⟩
@[simp] theorem dvr_l7 : Dvr 7 = True := eq_true ⟨by decide, by decide⟩
@[simp] theorem in62_l8 : In62 8 = True := eq_true ⟨by decide, by decide⟩
@[simp] theorem in63_l8 : In63 8 = True := eq_true ⟨by decide, by decide⟩
@[simp] theorem in63e_l8 : In63e 8 = True := eq_true ⟨by decide, by decide⟩
@[simp] theorem in64_l8 : In64 8 = True := eq_true ⟨by decide, by decide⟩
@[simp] theorem dvr_l8 : Dvr 8 = True := eq_true ⟨by decide, by decide⟩
@[simp] theorem in62_l9 : In62 9 = True := eq_true ⟨by decide, by decide⟩
@[simp] theorem in63_l9 : In63 9 = True := eq_true ⟨by decide, by decide⟩
@[simp] theorem in63e_l9 : In63e 9 = True := eq_true ⟨by decide, by decide⟩
@[simp] theorem in64_l9 : In64 9 = True := eq_true ⟨by decide, by decide⟩
@[simp] theorem dvr_l9 : Dvr 9 = True := eq_true ⟨by decide, by decide⟩
@[simp] theorem in62_l10 : In62 10 = True := eq_true ⟨by decide, by decide⟩
@[simp] theorem in63_l10 : In63 10 = True := eq_true ⟨by decide, by decide⟩
@[simp] theorem in63e_l10 : In63e 10 = True := eq_true ⟨by decide, by decide⟩
@[simp] theorem in64_l10 : In64 10 = True := eq_true ⟨by decide, by decide⟩
@[simp] theorem dvr_l10 : Dvr 10 = True := eq_true ⟨by decide, by decide⟩
@[simp] theorem in62_l11 : In62 11 = True := eq_true ⟨by decide, by decide⟩
@[simp] theorem in63_l11 : In63 11 = True := eq_true ⟨by decide, by decide⟩
@[simp] theorem in63e_l11 : In63e 11 = True := eq_true ⟨by decide, by decide⟩
@[simp] theorem in64_l11 : In64 11 = True := eq_true ⟨by decide, by decide⟩
@[simp] theorem dvr_l11 : Dvr 11 = True := eq_true ⟨by decide, by decide⟩
@[simp] theorem in62_l12 : In62 12 = True := eq_true ⟨by decide, by decide⟩
@[simp] theorem in63_l12 : In63 12 = True := eq_true ⟨by decide, by decide⟩
@[simp] theorem in63e_l12 : In63e 12 = True := eq_true ⟨by decide, by decide⟩
@[simp] theorem in64_l12 : In64 12 = True := eq_true ⟨by decide, by decide⟩
@[simp] theorem dvr_l12 : Dvr 12 = True := eq_true ⟨by decide, by decide⟩
@[simp] theorem in62_l13 : In62 13 = True := eq_true ⟨by decide, by decide⟩
@[simp] theorem in63_l13 : In63 13 = True := eq_true ⟨by decide, by decide⟩
@[simp] theorem in63e_l13 : In63e 13 = True := eq_true ⟨by decide, by decide⟩
@[simp] theorem in64_l13 : In64 13 = True := eq_true ⟨by decide, by decide⟩
@[simp] theorem dvr_l13 : Dvr 13 = True := eq_true ⟨by decide, by decide⟩
@[simp] theorem in62_l14 : In62 14 = True := eq_true ⟨by decide, by decide⟩
@[simp] theorem in63_l14 : In63 14 = True := eq_true ⟨by decide, by decide⟩
@[simp] theorem in63e_l14 : In63e 14 = True := eq_true ⟨by decide, by decide⟩
@[simp] theorem in64_l14 : In64 14 = True := eq_true ⟨by decide, by decide⟩
@[simp] theorem dvr_l14 : Dvr 14 = True := eq_true ⟨by decide, by decide⟩
@[simp] theorem in62_l15 : In62 15 = True := eq_true ⟨by decide, by decide⟩
@[simp] theorem in63_l15 : In63 15 = True := eq_true ⟨by decide, by decide⟩
@[simp] theorem in63e_l15 : In63e 15 = True := eq_true ⟨by decide, by decide⟩
@[simp] theorem in64_l15 : In64 15 = True := eq_true ⟨by decide, by decide⟩
@[simp] theorem dvr_l15 : Dvr 15 = True := eq_true ⟨by decide, by decide⟩
@[simp] theorem in62_l16 : In62 16 = True := eq_true ⟨by decide, by decide⟩
@[simp] theorem in63_l16 : In63 16 = True := eq_true ⟨by decide, by decide⟩
@[simp] theorem in63e_l16 : In63e 16 = True := eq_true ⟨by decide, by decide⟩
@[simp] theorem in64_l16 : In64 16 = True := eq_true ⟨by decide, by decide⟩
@[simp] theorem dvr_l16 : Dvr 16 = True := eq_true ⟨by decide, by decide⟩
@[simp] theorem in62_l17 : In62 17 = True := eq_true ⟨by decide, by decide⟩
@[simp] theorem in63_l17 : In63 17 = True := eq_true ⟨by decide, by decide⟩
@[simp] theorem in63e_l17 : In63e 17 = True := eq_true ⟨by decide, by decide⟩
@[simp] theorem in64_l17 : In64 17 = True := eq_true ⟨by decide, by decide⟩
@[simp] theorem dvr_l17 : Dvr 17 = True := eq_true ⟨by decide, by decide⟩
@[simp] theorem in62_l18 : In62 18 = True := eq_true ⟨by decide, by decide⟩
@[simp] theorem in63_l18 : In63 18 = True := eq_true ⟨by decide, by decide⟩
@[simp] theorem in63e_l18 : In63e 18 = True := eq_true ⟨by decide, by decide⟩
@[simp] theorem in64_l18 : In64 18 = True := eq_true ⟨by decide, by decide⟩
@[simp] theorem dvr_l18 : Dvr 18 = True := eq_true ⟨by decide, by decide⟩
@[simp] theorem in62_l19 : In62 19 = True := eq_true ⟨by decide, by decide⟩
@[simp] theorem in63_l19 : In63 19 = True := eq_true ⟨by decide, by decide⟩
@[simp] theorem in63e_l19 : In63e 19 = True := eq_true ⟨by decide, by decide⟩
@[simp] theorem in64_l19 : In64 19 = True := eq_true ⟨by decide, by decide⟩
@[simp] theorem dvr_l19 : Dvr 19 = True := eq_true ⟨by decide, by decide⟩
@[simp] theorem in62_l20 : In62 20 = True := eq_true ⟨by decide, by decide⟩
@[simp] theorem in63_l20 : In63 20 = True := eq_true ⟨by decide, by decide⟩
@[simp] theorem in63e_l20 : In63e 20 = True := eq_true ⟨by decide, by decide⟩
@[simp] theorem in64_l20 : In64 20 = True := eq_true ⟨by decide, by decide⟩
@[simp] theorem dvr_l20 : Dvr 20 = True := eq_true ⟨by decide, by decide⟩
@[simp] theorem in62_l21 : In62 21 = True := eq_true ⟨by decide, by decide⟩
@[simp] theorem in63_l21 : In63 21 = True := eq_true ⟨by decide, by decide⟩
@[simp] theorem in63e_l21 : In63e 21 = True := eq_true ⟨by decide, by decide⟩
@[simp] theorem in64_l21 : In64 21 = True := eq_true ⟨by decide, by decide⟩
@[simp] theorem dvr_l21 : Dvr 21 = True := eq_true ⟨by decide, by decide⟩
@[simp] theorem in62_l22 : In62 22 = True := eq_true ⟨by decide, by decide⟩
@[simp] theorem in63_l22 : In63 22 = True := eq_true ⟨by decide, by decide⟩
@[simp] theorem in63e_l22 : In63e 22 = True := eq_true ⟨by decide, by decide⟩
@[simp] theorem in64_l22 : In64 22 = True := eq_true ⟨by decide, by decide⟩
@[simp] theorem dvr_l22 : Dvr 22 = True := eq_true ⟨by decide, by decide⟩
@[simp] theorem in62_l23 : In62 23 = True := eq_true ⟨by decide, by decide⟩
@[simp] theorem in63_l23 : In63 23 = True := eq_true ⟨by decide, by decide⟩
@[simp] theorem in63e_l23 : In63e 23 = True := eq_true ⟨by decide, by decide⟩
@[simp] theorem in64_l23 : In64 23 = True := eq_true ⟨by decide, by decide⟩
@[simp] theorem dvr_l23 : Dvr 23 = True := eq_true ⟨by decide, by decide⟩
@[simp] theorem in62_l24 : In62 24 = True := eq_true ⟨by decide, by decide⟩
@[simp] theorem in63_l24 : In63 24 = True := eq_true ⟨by decide, by decide⟩
@[simp] theorem in63e_l24 : In63e 24 = True := eq_true ⟨by decide, by decide⟩
@[simp] theorem in64_l24 : In64 24 = True := eq_true ⟨by decide, by decide⟩
@[simp] theorem dvr_l24 : Dvr 24 = True := eq_true ⟨by decide, by decide⟩
@[simp] theorem in62_l25 : In62 25 = True := eq_true ⟨by decide, by decide⟩
@[simp] theorem in63_l25 : In63 25 = True := eq_true ⟨by decide, by decide⟩
@[simp] theorem in63e_l25 : In63e 25 = True := eq_true ⟨by decide, by decide⟩
@[simp] theorem in64_l25 : In64 25 = True := eq_true ⟨by decide, by decide⟩
@[simp] theorem dvr_l25 : Dvr 25 = True := eq_true ⟨by decide, by decide⟩
@[simp] theorem in62_l26 : In62 26 = True := eq_true ⟨by decide, by decide⟩
@[simp] theorem in63_l26 : In63 26 = True := eq_true ⟨by decide, by decide⟩
@[simp] theorem in63e_l26 : In63e 26 = True := eq_true ⟨by decide, by decide⟩
@[simp] theorem in64_l26 : In64 26 = True := eq_true ⟨by decide, by decide⟩
@[simp] theorem dvr_l26 : Dvr 26 = True := eq_true ⟨by decide, by decide⟩
@[simp] theorem in62_l27 : In62 27 = True := eq_true ⟨by decide, by decide⟩
@[simp] theorem in63_l27 : In63 27 = True := eq_true ⟨by decide, by decide⟩
@[simp] theorem in63e_l27 : In63e 27 = True := eq_true ⟨by decide, by decide⟩
@[simp] theorem in64_l27 : In64 27 = True := eq_true ⟨by decide, by decide⟩
@[simp] theorem dvr_l27 : Dvr 27 = True := eq_true ⟨by decide, by decide⟩
@[simp] theorem in62_l28 : In62 28 = True := eq_true ⟨by decide, by decide⟩
@[simp] theorem in63_l28 : In63 28 = True := eq_true ⟨by decide, by decide⟩
@[simp] theorem in63e_l28 : In63e 28 = True := eq_true ⟨by decide, by decide⟩
@[simp] theorem in64_l28 : In64 28 = True := eq_true ⟨by decide, by decide⟩
@[simp] theorem dvr_l28 : Dvr 28 = True := eq_true ⟨by decide, by decide⟩
@[simp] theorem in62_l29 : In62 29 = True := eq_true ⟨by decide, by decide⟩
@[simp] theorem in63_l29 : In63 29 = True := eq_true ⟨by decide, by decide⟩
@[simp] theorem in63e_l29 : In63e 29 = True := eq_true ⟨by decide, by decide⟩
@[simp] theorem in64_l29 : In64 29 = True := eq_true ⟨by decide, by decide⟩
@[simp] theorem dvr_l29 : Dvr 29 = True := eq_true ⟨by decide, by decide⟩
@[simp] theorem in62_l30 : In62 30 = True := eq_true ⟨by decide, by decide⟩
@[simp] theorem in63_l30 : In63 30 = True := eq_true ⟨by decide, by decide⟩
@[simp] theorem in63e_l30 : In63e 30 = True := eq_true ⟨by decide, by decide⟩
@[simp] theorem in64_l30 : In64 30 = True := eq_true ⟨by decide, by decide⟩
@[simp] theorem dvr_l30 : Dvr 30 = True := eq_true ⟨by decide, by decide⟩
@[simp] theorem in62_l31 : In62 31 = True := eq_true ⟨by decide, by decide⟩
@[simp] theorem in63_l31 : In63 31 = True := eq_true ⟨by decide, by decide⟩
@[simp] theorem in63e_l31 : In63e 31 = True := eq_true ⟨by decide, by decide⟩
@[simp] theorem in64_l31 : In64 31 = True := eq_true ⟨by decide, by decide⟩
@[simp] theorem dvr_l31 : Dvr 31 = True := eq_true ⟨by decide, by decide⟩
@[simp] theorem in62_l32 : In62 32 = True := eq_true ⟨by decide, by decide⟩
@[simp] theorem in63_l32 : In63 32 = True := eq_true ⟨by decide, by decide⟩
@[simp] theorem in63e_l32 : In63e 32 = True := eq_true ⟨by decide, by decide⟩
@[simp] theorem in64_l32 : In64 32 = True := eq_true ⟨by decide, by decide⟩
@[simp] theorem dvr_l32 : Dvr 32 = True := eq_true ⟨by decide, by decide⟩
@[simp] theorem in62_l33 : In62 33 = True := eq_true ⟨by decide, by decide⟩
@[simp] theorem in63_l33 : In63 33 = True := eq_true ⟨by decide, by decide⟩
@[simp] theorem in63e_l33 : In63e 33 = True := eq_true ⟨by decide, by decide⟩
@[simp] theorem in64_l33 : In64 33 = True := eq_true ⟨by decide, by decide⟩
@[simp] theorem dvr_l33 : Dvr 33 = True := eq_true ⟨by decide, by decide⟩
@[simp] theorem in62_l34 : In62 34 = True := eq_true ⟨by decide, by decide⟩
@[simp] theorem in63_l34 : In63 34 = True := eq_true ⟨by decide, by decide⟩
@[simp] theorem in63e_l34 : In63e 34 = True := eq_true ⟨by decide, by decide⟩
@[simp] theorem in64_l34 : In64 34 = True := eq_true ⟨by decide, by decide⟩
@[simp] theorem dvr_l34 : Dvr 34 = True := eq_true ⟨by decide, by decide⟩
@[simp] theorem in62_l35 : In62 35 = True := eq_true ⟨by decide, by decide⟩
@[simp] theorem in63_l35 : In63 35 = True := eq_true ⟨by decide, by decide⟩
@[simp] theorem in63e_l35 : In63e 35 = True := eq_true ⟨by decide, by decide⟩
@[simp] theorem in64_l35 : In64 35 = True := eq_true ⟨by decide, by decide⟩
@[simp] theorem dvr_l35 : Dvr 35 = True := eq_true ⟨by decide, by decide⟩
@[simp] theorem in62_l36 : In62 36 = True := eq_true ⟨by decide, by decide⟩
@[simp] theorem in63_l36 : In63 36 = True := eq_true ⟨by decide, by decide⟩
@[simp] theorem in63e_l36 : In63e 36 = True := eq_true ⟨by decide, by decide⟩
@[simp] theorem in64_l36 : In64 36 = True := eq_true ⟨by decide, by decide⟩
@[simp] theorem dvr_l36 : Dvr 36 = True := eq_true ⟨by decide, by decide⟩
@[simp] theorem in62_l37 : In62 37 = True := eq_true ⟨by decide, by decide⟩
@[simp] theorem in63_l37 : In63 37 = True := eq_true ⟨by decide, by decide⟩
@[simp] theorem in63e_l37 : In63e 37 = True := eq_true ⟨by decide, by decide⟩
@[simp] theorem in64_l37 : In64 37 = True := eq_true ⟨by decide, by decide⟩
@[simp] theorem dvr_l37 : Dvr 37 = True := eq_true ⟨by decide, by decide⟩
@[simp] theorem in62_l38 : In62 38 = True := eq_true ⟨by decide, by decide⟩
@[simp] theorem in63_l38 : In63 38 = True := eq_true ⟨by decide, by decide⟩
@[simp] theorem in63e_l38 : In63e 38 = True := eq_true ⟨by decide, by decide⟩
@[simp] theorem in64_l38 : In64 38 = True := eq_true ⟨by decide, by decide⟩
@[simp] theorem dvr_l38 : Dvr 38 = True := eq_true ⟨by decide, by decide⟩
@[simp] theorem in62_l39 : In62 39 = True := eq_true ⟨by decide, by decide⟩
@[simp] theorem in63_l39 : In63 39 = True := eq_true ⟨by decide, by decide⟩
@[simp] theorem in63e_l39 : In63e 39 = True := eq_true ⟨by decide, by decide⟩
@[simp] theorem in64_l39 : In64 39 = True := eq_true ⟨by decide, by decide⟩
@[simp] theorem dvr_l39 : Dvr 39 = True := eq_true ⟨by decide, by decide⟩
@[simp] theorem in62_l40 : In62 40 = True := eq_true ⟨by decide, by decide⟩
@[simp] theorem in63_l40 : In63 40 = True := eq_true ⟨by decide, by decide⟩
@[simp] theorem in63e_l40 : In63e 40 = True := eq_true ⟨by decide, by decide⟩
@[simp] theorem in64_l40 : In64 40 = True := eq_true ⟨by decide, by decide⟩
@[simp] theorem dvr_l40 : Dvr 40 = True := eq_true ⟨by decide, by decide⟩
@[simp] theorem in62_l41 : In62 41 = True := eq_true ⟨by decide, by decide⟩
@[simp] theorem in63_l41 : In63 41 = True := eq_true ⟨by decide, by decide⟩
@[simp] theorem in63e_l41 : In63e 41 = True := eq_true ⟨by decide, by decide⟩
@[simp] theorem in64_l41 : In64 41 = True := eq_true ⟨by decide, by decide⟩
@[simp] theorem dvr_l41 : Dvr 41 = True := eq_true ⟨by decide, by decide⟩
@[simp] theorem in62_l42 : In62 42 = True := eq_true ⟨by decide, by decide⟩
@[simp] theorem in63_l42 : In63 42 = True := eq_true ⟨by decide, by decide⟩
@[simp] theorem in63e_l42 : In63e 42 = True := eq_true ⟨by decide, by decide⟩
@[simp] theorem in64_l42 : In64 42 = True := eq_true ⟨by decide, by decide⟩
@[simp] theorem dvr_l42 : Dvr 42 = True := eq_true ⟨by decide, by decide⟩
@[simp] theorem in62_l43 : In62 43 = True := eq_true ⟨by decide, by decide⟩
@[simp] theorem in63_l43 : In63 43 = True := eq_true ⟨by decide, by decide⟩
@[simp] theorem in63e_l43 : In63e 43 = True := eq_true ⟨by decide, by decide⟩
@[simp] theorem in64_l43 : In64 43 = True := eq_true ⟨by decide, by decide⟩
@[simp] theorem dvr_l43 : Dvr 43 = True := eq_true ⟨by decide, by decide⟩
@[simp] theorem in62_l44 : In62 44 = True := eq_true ⟨by decide, by decide⟩
@[simp] theorem in63_l44 : In63 44 = True := eq_true ⟨by decide, by decide⟩
@[simp] theorem in63e_l44 : In63e 44 = True := eq_true ⟨by decide, by decide⟩
@[simp] theorem in64_l44 : In64 44 = True := eq_true ⟨by decide, by decide⟩
@[simp] theorem dvr_l44 : Dvr 44 = True := eq_true ⟨by decide, by decide⟩
@[simp] theorem in62_l45 : In62 45 = True := eq_true ⟨by decide, by decide⟩
@[simp] theorem in63_l45 : In63 45 = True := eq_true ⟨by decide, by decide⟩
@[simp] theorem in63e_l45 : In63e 45 = True := eq_true ⟨by decide, by decide⟩
@[simp] theorem in64_l45 : In64 45 = True := eq_true ⟨by decide, by decide⟩
@[simp] theorem dvr_l45 : Dvr 45 = True := eq_true ⟨by decide, by decide⟩
@[simp] theorem in62_l46 : In62 46 = True := eq_true ⟨by decide, by decide⟩
@[simp] theorem in63_l46 : In63 46 = True := eq_true ⟨by decide, by decide⟩
@[simp] theorem in63e_l46 : In63e 46 = True := eq_true ⟨by decide, by decide⟩
@[simp] theorem in64_l46 : In64 46 = True := eq_true ⟨by decide, by decide⟩
@[simp] theorem dvr_l46 : Dvr 46 = True := eq_true ⟨by decide, by decide⟩
@[simp] theorem in62_l47 : In62 47 = True := eq_true ⟨by decide, by decide⟩
@[simp] theorem in63_l47 : In63 47 = True := eq_true ⟨by decide, by decide⟩
@[simp] theorem in63e_l47 : In63e 47 = True := eq_true ⟨by decide, by decide⟩
@[simp] theorem in64_l47 : In64 47 = True := eq_true ⟨by decide, by decide⟩
@[simp] theorem dvr_l47 : Dvr 47 = True := eq_true ⟨by decide, by decide⟩
@[simp] theorem in62_l48 : In62 48 = True := eq_true ⟨by decide, by decide⟩
@[simp] theorem in63_l48 : In63 48 = True := eq_true ⟨by decide, by decide⟩
@[simp] theorem in63e_l48 : In63e 48 = True := eq_true ⟨by decide, by decide⟩
@[simp] theorem in64_l48 : In64 48 = True := eq_true ⟨by decide, by decide⟩
@[simp] theorem dvr_l48 : Dvr 48 = True := eq_true ⟨by decide, by decide⟩
@[simp] theorem in62_l49 : In62 49 = True := eq_true ⟨by decide, by decide⟩
@[simp] theorem in63_l49 : In63 49 = True := eq_true ⟨by decide, by decide⟩
@[simp] theorem in63e_l49 : In63e 49 = True := eq_true ⟨by decide, by decide⟩
@[simp] theorem in64_l49 : In64 49 = True := eq_true ⟨by decide, by decide⟩
@[simp] theorem dvr_l49 : Dvr 49 = True := eq_true ⟨by decide, by decide⟩
@[simp] theorem in62_l50 : In62 50 = True := eq_true ⟨by decide, by decide⟩
@[simp] theorem in63_l50 : In63 50 = True := eq_true ⟨by decide, by decide⟩
@[simp] theorem in63e_l50 : In63e 50 = True := eq_true ⟨by decide, by decide⟩
@[simp] theorem in64_l50 : In64 50 = True := eq_true ⟨by decide, by decide⟩
@[simp] theorem dvr_l50 : Dvr 50 = True := eq_true ⟨by decide, by decide⟩
@[simp] theorem in62_l51 : In62 51 = True := eq_true ⟨by decide, by decide⟩
@[simp] theorem in63_l51 : In63 51 = True := eq_true ⟨by decide, by decide⟩
@[simp] theorem in63e_l51 : In63e 51 = True := eq_true ⟨by decide, by decide⟩
@[simp] theorem in64_l51 : In64 51 = True := eq_true ⟨by decide, by decide⟩
@[simp] theorem dvr_l51 : Dvr 51 = True := eq_true ⟨by decide, by decide⟩
@[simp] theorem in62_l52 : In62 52 = True := eq_true ⟨by decide, by decide⟩
@[simp] theorem in63_l52 : In63 52 = True := eq_true ⟨by decide, by decide⟩
@[simp] theorem in63e_l52 : In63e 52 = True := eq_true ⟨by decide, by decide⟩
@[simp] theorem in64_l52 : In64 52 = True := eq_true ⟨by decide, by decide⟩
@[simp] theorem dvr_l52 : Dvr 52 = True := eq_true ⟨by decide, by decide⟩
@[simp] theorem in62_l53 : In62 53 = True := eq_true ⟨by decide, by decide⟩
@[simp] theorem in63_l53 : In63 53 = True := eq_true ⟨by decide, by decide⟩
@[simp] theorem in63e_l53 : In63e 53 = True := eq_true ⟨by decide, by decide⟩
@[simp] theorem in64_l53 : In64 53 = True := eq_true ⟨by decide, by decide⟩
@[simp] theorem dvr_l53 : Dvr 53 = True := eq_true ⟨by decide, by decide⟩
@[simp] theorem in62_l54 : In62 54 = True := eq_true ⟨by decide, by decide⟩
@[simp] theorem in63_l54 : In63 54 = True := eq_true ⟨by decide, by decide⟩
@[simp] theorem in63e_l54 : In63e 54 = True := eq_true ⟨by decide, by decide⟩
@[simp] theorem in64_l54 : In64 54 = True := eq_true ⟨by decide, by decide⟩
@[simp] theorem dvr_l54 : Dvr 54 = True := eq_true ⟨by decide, by decide⟩
@[simp] theorem in62_l55 : In62 55 = True := eq_true ⟨by decide, by decide⟩
@[simp] theorem in63_l55 : In63 55 = True := eq_true ⟨by decide, by decide⟩
@[simp] theorem in63e_l55 : In63e 55 = True := eq_true ⟨by decide, by decide⟩
@[simp] theorem in64_l55 : In64 55 = True := eq_true ⟨by decide, by decide⟩
@[simp] theorem dvr_l55 : Dvr 55 = True := eq_true ⟨by decide, by decide⟩
@[simp] theorem in62_l56 : In62 56 = True := eq_true ⟨by decide, by decide⟩
@[simp] theorem in63_l56 : In63 56 = True := eq_true ⟨by decide, by decide⟩
@[simp] theorem in63e_l56 : In63e 56 = True := eq_true ⟨by decide, by decide⟩
@[simp] theorem in64_l56 : In64 56 = True := eq_true ⟨by decide, by decide⟩
@[simp] theorem dvr_l56 : Dvr 56 = True := eq_true ⟨by decide, by decide⟩
@[simp] theorem in62_l57 : In62 57 = True := eq_true ⟨by decide, by decide⟩
@[simp] theorem in63_l57 : In63 57 = True := eq_true ⟨by decide, by decide⟩
@[simp] theorem in63e_l57 : In63e 57 = True := eq_true ⟨by decide, by decide⟩
@[simp] theorem in64_l57 : In64 57 = True := eq_true ⟨by decide, by decide⟩
@[simp] theorem dvr_l57 : Dvr 57 = True := eq_true ⟨by decide, by decide⟩
@[simp] theorem in62_l58 : In62 58 = True := eq_true ⟨by decide, by decide⟩
@[simp] theorem in63_l58 : In63 58 = True := eq_true ⟨by decide, by decide⟩
@[simp] theorem in63e_l58 : In63e 58 = True := eq_true ⟨by decide, by decide⟩
@[simp] theorem in64_l58 : In64 58 = True := eq_true ⟨by decide, by decide⟩
@[simp] theorem dvr_l58 : Dvr 58 = True := eq_true ⟨by decide, by decide⟩
@[simp] theorem in62_l59 : In62 59 = True := eq_true ⟨by decide, by decide⟩
@[simp] theorem in63_l59 : In63 59 = True := eq_true ⟨by decide, by decide⟩
@[simp] theorem in63e_l59 : In63e 59 = True := eq_true ⟨by decide, by decide⟩
@[simp] theorem in64_l59 : In64 59 = True := eq_true ⟨by decide, by decide⟩
@[simp] theorem dvr_l59 : Dvr 59 = True := eq_true ⟨by decide, by decide⟩
@[simp] theorem in62_l60 : In62 60 = True := eq_true ⟨by decide, by decide⟩
@[simp] theorem in63_l60 : In63 60 = True := eq_true ⟨by decide, by decide⟩
@[simp] theorem in63e_l60 : In63e 60 = True := eq_true ⟨by decide, by decide⟩
@[simp] theorem in64_l60 : In64 60 = True := eq_true ⟨by decide, by decide⟩
@[simp] theorem dvr_l60 : Dvr 60 = True := eq_true ⟨by decide, by decide⟩
@[simp] theorem in62_l61 : In62 61 = True := eq_true ⟨by decide, by decide⟩
@[simp] theorem in63_l61 : In63 61 = True := eq_true ⟨by decide, by decide⟩
@[simp] theorem in63e_l61 : In63e 61 = True := eq_true ⟨by decide, by decide⟩
@[simp] theorem in64_l61 : In64 61 = True := eq_true ⟨by decide, by decide⟩
@[simp] theorem dvr_l61 : Dvr 61 = True := eq_true ⟨by decide, by decide⟩
@[simp] theorem in62_l62 : In62 62 = True := eq_true ⟨by decide, by decide⟩
@[simp] theorem in63_l62 : In63 62 = True := eq_true ⟨by decide, by decide⟩
@[simp] theorem in63e_l62 : In63e 62 = True := eq_true ⟨by decide, by decide⟩
@[simp] theorem in64_l62 : In64 62 = True := eq_true ⟨by decide, by decide⟩
@[simp] theorem dvr_l62 : Dvr 62 = True := eq_true ⟨by decide, by decide⟩
@[simp] theorem in62_l63 : In62 63 = True := eq_true ⟨by decide, by decide⟩
@[simp] theorem in63_l63 : In63 63 = True := eq_true ⟨by decide, by decide⟩
@[simp] theorem in63e_l63 : In63e 63 = True := eq_true ⟨by decide, by decide⟩
@[simp] theorem in64_l63 : In64 63 = True := eq_true ⟨by decide, by decide⟩
@[simp] theorem dvr_l63 : Dvr 63 = True := eq_true ⟨by decide, by decide⟩
@[simp] theorem in62_l64 : In62 64 = True := eq_true ⟨by decide, by decide⟩
@[simp] theorem in63_l64 : In63 64 = True := eq_true ⟨by decide, by decide⟩
@[simp] theorem in63e_l64 : In63e 64 = True := eq_true ⟨by decide, by decide⟩
@[simp] theorem in64_l64 : In64 64 = True := eq_true ⟨by decide, by decide⟩
@[simp] theorem dvr_l64 : Dvr 64 = True := eq_true ⟨by decide, by decide⟩
@[simp] theorem in62_l70 : In62 70 = True := eq_true ⟨by decide, by decide⟩
@[simp] theorem in63_l70 : In63 70 = True := eq_true ⟨by decide, by decide⟩
@[simp] theorem in63e_l70 : In63e 70 = True := eq_true ⟨by decide, by decide⟩
@[simp] theorem in64_l70 : In64 70 = True := eq_true ⟨by decide, by decide⟩
@[simp] theorem dvr_l70 : Dvr 70 = True := eq_true ⟨by decide, by decide⟩
@[simp] theorem in62_l200 : In62 200 = True := eq_true ⟨by decide, by decide⟩
@[simp] theorem in63_l200 : In63 200 = True := eq_true ⟨by decide, by decide⟩
@[simp] theorem in63e_l200 : In63e 200 = True := eq_true ⟨by decide, by decide⟩
@[simp] theorem in64_l200 : In64 200 = True := eq_true ⟨by decide, by decide⟩
@[simp] theorem dvr_l200 : Dvr 200 = True := eq_true ⟨by decide, by decide⟩
@[simp] theorem in62_l300 : In62 300 = True := eq_true ⟨by decide, by decide⟩
@[simp] theorem in63_l300 : In63 300 = True := eq_true ⟨by decide, by decide⟩
@[simp] theorem in63e_l300 : In63e 300 = True := eq_true ⟨by decide, by decide⟩
@[simp] theorem in64_l300 : In64 300 = True := eq_true ⟨by decide, by decide⟩
@[simp] theorem dvr_l300 : Dvr 300 = True := eq_true ⟨by decide, by decide⟩
@[simp] theorem in62_l400 : In62 400 = True := eq_true ⟨by decide, by decide⟩
@[simp] theorem in63_l400 : In63 400 = True := eq_true ⟨by decide, by decide⟩
@[simp] theorem in63e_l400 : In63e 400 = True := eq_true ⟨by decide, by decide⟩
@[simp] theorem in64_l400 : In64 400 = True := eq_true ⟨by decide, by decide⟩
@[simp] theorem dvr_l400 : Dvr 400 = True := eq_true ⟨by decide, by decide⟩
@[simp] theorem in62_l600 : In62 600 = True := eq_true ⟨by decide, by decide⟩
@[simp] theorem in63_l600 : In63 600 = True := eq_true ⟨by decide, by decide⟩
@[simp] theorem in63e_l600 : In63e 600 = True := eq_true ⟨by decide, by decide⟩
@[simp] theorem in64_l600 : In64 600 = True := eq_true ⟨by decide, by decide⟩
@[simp] theorem dvr_l600 : Dvr 600 = True := eq_true ⟨by decide, by decide⟩
@[simp] theorem in62_l700 : In62 700 = True := eq_true ⟨by decide, by decide⟩
@[simp] theorem in63_l700 : In63 700 = True := eq_true ⟨by decide, by decide⟩
@[simp] theorem in63e_l700 : In63e 700 = True := eq_true ⟨by decide, by decide⟩
@[simp] theorem in64_l700 : In64 700 = True := eq_true ⟨by decide, by decide⟩
@[simp] theorem dvr_l700 : Dvr 700 = True := eq_true ⟨by decide, by decide⟩
@[simp] theorem in62_l729 : In62 729 = True := eq_true ⟨by decide, by decide⟩
@[simp] theorem in63_l729 : In63 729 = True := eq_true ⟨by decide, by decide⟩
@[simp] theorem in63e_l729 : In63e 729 = True := eq_true ⟨by decide, by decide⟩
@[simp] theorem in64_l729 : In64 729 = True := eq_true ⟨by decide, by decide⟩
@[simp] theorem dvr_l729 : Dvr 729 = True := eq_true ⟨by decide, by decide⟩
@[simp] theorem in62_l924 : In62 924 = True := eq_true ⟨by decide, by decide⟩
@[simp] theorem in63_l924 : In63 924 = True := eq_true ⟨by decide, by decide⟩
@[simp] theorem in63e_l924 : In63e 924 = True := eq_true ⟨by decide, by decide⟩
@[simp] theorem in64_l924 : In64 924 = True := eq_true ⟨by decide, by decide⟩
@[simp] theorem dvr_l924 : Dvr 924 = True := eq_true ⟨by decide, by decide⟩
@[simp] theorem in62_l1000 : In62 1000 = True := eq_true ⟨by decide, by decide⟩
@[simp] theorem in63_l1000 : In63 1000 = True := eq_true ⟨by decide, by decide⟩
@[simp] theorem in63e_l1000 : In63e 1000 = True := eq_true ⟨by decide, by decide⟩
@[simp] theorem in64_l1000 : In64 1000 = True := eq_true ⟨by decide, by decide⟩
@[simp] theorem dvr_l1000 : Dvr 1000 = True := eq_true ⟨by decide, by decide⟩
@[simp] theorem in62_l3000 : In62 3000 = True := eq_true ⟨by decide, by decide⟩
@[simp] theorem in63_l3000 : In63 3000 = True := eq_true ⟨by decide, by decide⟩
@[simp] theorem in63e_l3000 : In63e 3000 = True := eq_true ⟨by decide, by decide⟩
@[simp] theorem in64_l3000 : In64 3000 = True := eq_true ⟨by decide, by decide⟩
@[simp] theorem dvr_l3000 : Dvr 3000 = True := eq_true ⟨by decide, by decide⟩
@[simp] theorem in62_l4096 : In62 4096 = True := eq_true ⟨by decide, by decide⟩
@[simp] theorem in63_l4096 : In63 4096 = True := eq_true ⟨by decide, by decide⟩
@[simp] theorem in63e_l4096 : In63e 4096 = True := eq_true ⟨by decide, by decide⟩
@[simp] theorem in64_l4096 : In64 4096 = True := eq_true ⟨by decide, by decide⟩
@[simp] theorem dvr_l4096 : Dvr 4096 = True := eq_true ⟨by decide, by decide⟩
@[simp] theorem in62_l7919 : In62 7919 = True := eq_true ⟨by decide, by decide⟩
@[simp] theorem in63_l7919 : In63 7919 = True := eq_true ⟨by decide, by decide⟩
@[simp] theorem in63e_l7919 : In63e 7919 = True := eq_true ⟨by decide, by decide⟩
@[simp] theorem in64_l7919 : In64 7919 = True := eq_true ⟨by decide, by decide⟩
@[simp] theorem dvr_l7919 : Dvr 7919 = True := eq_true ⟨by decide, by decide⟩
@[simp] theorem in62_l10007 : In62 10007 = True := eq_true ⟨by decide, by decide⟩
@[simp] theorem in63_l10007 : In63 10007 = True := eq_true ⟨by decide, by decide⟩
@[simp] theorem in63e_l10007 : In63e 10007 = True := eq_true ⟨by decide, by decide⟩
@[simp] theorem in64_l10007 : In64 10007 = True := eq_true ⟨by decide, by decide⟩
@[simp] theorem dvr_l10007 : Dvr 10007 = True := eq_true ⟨by decide, by decide⟩
@[simp] theorem in62_l30011 : In62 30011 = True := eq_true ⟨by decide, by decide⟩
@[simp] theorem in63_l30011 : In63 30011 = True := eq_true ⟨by decide, by decide⟩
@[simp] theorem in63e_l30011 : In63e 30011 = True := eq_true ⟨by decide, by decide⟩
@[simp] theorem in64_l30011 : In64 30011 = True := eq_true ⟨by decide, by decide⟩
@[simp] theorem dvr_l30011 : Dvr 30011 = True := eq_true ⟨by decide, by decide⟩
@[simp] theorem in62_l40503 : In62 40503 = True := eq_true ⟨by decide, by decide⟩
@[simp] theorem in63_l40503 : In63 40503 = True := eq_true ⟨by decide, by decide⟩
@[simp] theorem in63e_l40503 : In63e 40503 = True := eq_true ⟨by decide, by decide⟩
@[simp] theorem in64_l40503 : In64 40503 = True := eq_true ⟨by decide, by decide⟩
@[simp] theorem dvr_l40503 : Dvr 40503 = True := eq_true ⟨by decide, by decide⟩
@[simp] theorem in62_l40692 : In62 40692 = True := eq_true ⟨by decide, by decide⟩
@[simp] theorem in63_l40692 : In63 40692 = True := eq_true ⟨by decide, by decide⟩
@[simp] theorem in63e_l40692 : In63e 40692 = True := eq_true ⟨by decide, by decide⟩
@[simp] theorem in64_l40692 : In64 40692 = True := eq_true ⟨by decide, by decide⟩
@[simp] theorem dvr_l40692 : Dvr 40692 = True := eq_true ⟨by decide, by decide⟩
@[simp] theorem in62_l48271 : In62 48271 = True := eq_true ⟨by decide, by decide⟩
@[simp] theorem in63_l48271 : In63 48271 = True := eq_true ⟨by decide, by decide⟩
@[simp] theorem in63e_l48271 : In63e 48271 = True := eq_true ⟨by decide, by decide⟩
@[simp] theorem in64_l48271 : In64 48271 = True := eq_true ⟨by decide, by decide⟩
@[simp] theorem dvr_l48271 : Dvr 48271 = True := eq_true ⟨by decide, by decide⟩
@[simp] theorem in62_l69621 : In62 69621 = True := eq_true ⟨by decide, by decide⟩
@[simp] theorem in63_l69621 : In63 69621 = True := eq_true ⟨by decide, by decide⟩
@[simp] theorem in63e_l69621 : In63e 69621 = True := eq_true ⟨by decide, by decide⟩
@[simp] theorem in64_l69621 : In64 69621 = True := eq_true ⟨by decide, by decide⟩
@[simp] theorem dvr_l69621 : Dvr 69621 = True := eq_true ⟨by decide, by decide⟩
@[simp] theorem in62_l1000000 : In62 1000000 = True := eq_true ⟨by decide, by decide⟩
@[simp] theorem in63_l1000000 : In63 1000000 = True := eq_true ⟨by decide, by decide⟩
@[simp] theorem in63e_l1000000 : In63e 1000000 = True := eq_true ⟨by decide, by decide⟩
@[simp] theorem in64_l1000000 : In64 1000000 = True := eq_true ⟨by decide, by decide⟩
@[simp] theorem dvr_l1000000 : Dvr 1000000 = True := eq_true ⟨by decide, by decide⟩
@[simp] theorem in62_l1000003 : In62 1000003 = True := eq_true ⟨by decide, by decide⟩
@[simp] theorem in63_l1000003 : In63 1000003 = True := eq_true ⟨by decide, by decide⟩
@[simp] theorem in63e_l1000003 : In63e 1000003 = True := eq_true ⟨by decide, by decide⟩
@[simp] theorem in64_l1000003 : In64 1000003 = True := eq_true ⟨by decide, by decide⟩
@[simp] theorem dvr_l1000003 : Dvr 1000003 = True := eq_true ⟨by decide, by decide⟩
@[simp] theorem in62_l2147483587 : In62 2147483587 = True := eq_true ⟨by decide, by decide⟩
@[simp] theorem in63_l2147483587 : In63 2147483587 = True := eq_true ⟨by decide, by decide⟩
@[simp] theorem in63e_l2147483587 : In63e 2147483587 = True := eq_true ⟨by decide, by decide⟩
@[simp] theorem in64_l2147483587 : In64 2147483587 = True := eq_true ⟨by decide, by decide⟩
@[simp] theorem dvr_l2147483587 : Dvr 2147483587 = True := eq_true ⟨by decide, by decide⟩
@[simp] theorem in62_l2147483629 : In62 2147483629 = True := eq_true ⟨by decide, by decide⟩
@[simp] theorem in63_l2147483629 : In63 2147483629 = True := eq_true ⟨by decide, by decide⟩
@[simp] theorem in63e_l2147483629 : In63e 2147483629 = True := eq_true ⟨by decide, by decide⟩
@[simp] theorem in64_l2147483629 : In64 2147483629 = True := eq_true ⟨by decide, by decide⟩
@[simp] theorem dvr_l2147483629 : Dvr 2147483629 = True := eq_true ⟨by decide, by decide⟩
@[simp] theorem in62_l2147483647 : In62 2147483647 = True := eq_true ⟨by decide, by decide⟩
@[simp] theorem in63_l2147483647 : In63 2147483647 = True := eq_true ⟨by decide, by decide⟩
@[simp] theorem in63e_l2147483647 : In63e 2147483647 = True := eq_true ⟨by decide, by decide⟩
@[simp] theorem in64_l2147483647 : In64 2147483647 = True := eq_true ⟨by decide, by decide⟩
@[simp] theorem dvr_l2147483647 : Dvr 2147483647 = True := eq_true ⟨by decide, by decide⟩
@[simp] theorem in62_l100000000000 : In62 100000000000 = True := eq_true ⟨by decide, by decide⟩
@[simp] theorem in63_l100000000000 : In63 100000000000 = True := eq_true ⟨by decide, by decide⟩
@[simp] theorem in63e_l100000000000 : In63e 100000000000 = True := eq_true ⟨by decide, by decide⟩
@[simp] theorem in64_l100000000000 : In64 100000000000 = True := eq_true ⟨by decide, by decide⟩
@[simp] theorem dvr_l100000000000 : Dvr 100000000000 = True := eq_true ⟨by decide, by decide⟩
@[simp] theorem in62_l1000000000000 : In62 1000000000000 = True := eq_true ⟨by decide, by decide⟩
@[simp] theorem in63_l1000000000000 : In63 1000000000000 = True := eq_true ⟨by decide, by decide⟩
@[simp] theorem in63e_l1000000000000 : In63e 1000000000000 = True := eq_true ⟨by decide, by decide⟩
@[simp] theorem in64_l1000000000000 : In64 1000000000000 = True := eq_true ⟨by decide, by decide⟩
@[simp] theorem dvr_l1000000000000 : Dvr 1000000000000 = True := eq_true ⟨by decide, by decide⟩
@[simp] theorem in62_l10000000000000 : In62 10000000000000 = True := eq_true ⟨by decide, by decide⟩
@[simp] theorem in63_l10000000000000 : In63 10000000000000 = True := eq_true ⟨by decide, by decide⟩
@[simp] theorem in63e_l10000000000000 : In63e 10000000000000 = True := eq_true ⟨by decide, by decide⟩
@[simp] theorem in64_l10000000000000 : In64 10000000000000 = True := eq_true ⟨by decide, by decide⟩
@[simp] theorem dvr_l10000000000000 : Dvr 10000000000000 = True := eq_true ⟨by decide, by decide⟩
@[simp] theorem in62_l100000000000000 : In62 100000000000000 = True := eq_true ⟨by decide, by decide⟩
@[simp] theorem in63_l100000000000000 : In63 100000000000000 = True := eq_true ⟨by decide, by decide⟩
@[simp] theorem in63e_l100000000000000 : In63e 100000000000000 = True := eq_true ⟨by decide, by decide⟩
@[simp] theorem in64_l100000000000000 : In64 100000000000000 = True := eq_true ⟨by decide, by decide⟩
@[simp] theorem dvr_l100000000000000 : Dvr 100000000000000 = True := eq_true ⟨by decide, by decide⟩
@[simp] theorem in62_l1000000000000000 : In62 1000000000000000 = True := eq_true ⟨by decide, by decide⟩
@[simp] theorem in63_l1000000000000000 : In63 1000000000000000 = True := eq_true ⟨by decide, by decide⟩
@[simp] theorem in63e_l1000000000000000 : In63e 1000000000000000 = True := eq_true ⟨by decide, by decide⟩
@[simp] theorem in64_l1000000000000000 : In64 1000000000000000 = True := eq_true ⟨by decide, by decide⟩
@[simp] theorem dvr_l1000000000000000 : Dvr 1000000000000000 = True := eq_true ⟨by decide, by decide⟩
@[simp] theorem in62_l1000000000000000000 : In62 1000000000000000000 = True := eq_true ⟨by decide, by decide⟩
@[simp] theorem in63_l1000000000000000000 : In63 1000000000000000000 = True := eq_true ⟨by decide, by decide⟩
@[simp] theorem in63e_l1000000000000000000 : In63e 1000000000000000000 = True := eq_true ⟨by decide, by decide⟩
@[simp] theorem in64_l1000000000000000000 : In64 1000000000000000000 = True := eq_true ⟨by decide, by decide⟩
@[simp] theorem dvr_l1000000000000000000 : Dvr 1000000000000000000 = True := eq_true ⟨by decide, by decide⟩
/-! ### an owned list of data -/
def dats (ds : List PD) : List Cel := ds.map Cel.dat
@[simp] theorem dats_nil : dats [] = [] := (rfl)
theorem dats_cons {d : PD} {ds : List PD} : dats (d :: ds) = .dat d :: dats ds := (rfl)
@[simp] theorem dats_pd {ds : List PD} : (dats ds).map Cel.pd = ds := by unfold dats; rw [List.map_map, show Cel.pd ∘ Cel.dat = id from rfl, List.map_id]
@[simp] theorem dats_len {ds : List PD} : (dats ds).length = ds.length := by unfold dats; exact List.length_map ..
@[simp] theorem dats_app {ds es : List PD} : dats ds ++ dats es = dats (ds ++ es) := by unfold dats; exact List.map_append.symm
@[simp] theorem dats_app1 {ds : List PD} {d : PD} : dats ds ++ [Cel.dat d] = dats (ds ++ [d]) := by unfold dats; rw [List.map_append]; rfl
@[simp] theorem dats_set {ds : List PD} {d : PD} {i : Nat} : (dats ds).set i (Cel.dat d) = dats (ds.set i d) := by unfold dats; rw [List.map_set]
@[simp] theorem dats_erase {ds : List PD} {i : Nat} : (dats ds).eraseIdx i = dats (ds.eraseIdx i) := by
  unfold dats
  induction ds generalizing i with
  | nil => rfl
  | cons x xs ih => cases i with
    | zero => rfl
    | succ i => simp [ih]
@[simp] theorem dats_take {ds : List PD} {i : Nat} : (dats ds).take i = dats (ds.take i) := by unfold dats; rw [List.map_take]
@[simp] theorem dats_drop {ds : List PD} {i : Nat} : (dats ds).drop i = dats (ds.drop i) := by unfold dats; rw [List.map_drop]
theorem datAt_dats {ds : List PD} {i : Nat} : datAt (dats ds) i = ds[i]? := by
  unfold datAt dats
  rw [List.getElem?_map]
  cases ds[i]? <;> rfl
theorem datAt_at {ds : List PD} {i : Nat} (h : i < ds.length) : datAt (dats ds) i = some ds[i] := by rw [datAt_dats, List.getElem?_eq_getElem h]
theorem datAt_map {α : Type} {f : α → PD} {l : List α} {j : Nat} (h : j < l.length) : datAt (dats (l.map f)) j = some (f l[j]) := by rw [datAt_dats, List.getElem?_map, List.getElem?_eq_getElem h]; rfl
/-! ### the functions at work -/
abbrev natD (n : Nat) : PD := .int (n : Nat)
abbrev kk0 : KK := ⟨[]⟩
section
variable {ρ : Env} {v : VE}
@[simp] theorem q_mk_nil : mk [] = [] := (rfl)
@[simp] theorem q_mk_cons {s : Sl} {r : Env} : mk (s :: r) = s.mk :: mk r := (rfl)
@[simp] theorem q_vw_nil : vw [] = [] := (rfl)
@[simp] theorem q_vw_cons {s : Sl} {r : Env} : vw (s :: r) = s.vw :: vw r := (rfl)
@[simp] theorem q_mk_dat {d : PD} : (Sl.dat d).mk = some d := (rfl)
@[simp] theorem q_mk_un : Sl.un.mk = none := (rfl)
@[simp] theorem q_mk_own {cs : List Cel} : (Sl.own cs).mk = none := (rfl)
@[simp] theorem q_vw_dat {d : PD} : (Sl.dat d).vw = some d := (rfl)
@[simp] theorem q_vw_un : Sl.un.vw = none := (rfl)
@[simp] theorem q_vw_own {cs : List Cel} : (Sl.own cs).vw = some (.list (cs.map Cel.pd)) := (rfl)
@[simp] theorem q_pd_dat {d : PD} : (Cel.dat d).pd = d := (rfl)
@[simp] theorem q_pd_sub {ds : List PD} : (Cel.sub ds).pd = .list ds := (rfl)
/-! pure -/
@[simp] theorem q_var {i : Nat} : xVar i v = (v[i]?).bind id := (rfl)
@[simp] theorem q_c {d : PD} : xC d v = some d := (rfl)
@[simp] theorem q_op {f : PD → PD → Option PD} {a b : XE} : xOp f a b v = (a v).bind fun x => (b v).bind fun y => f x y := (rfl)
@[simp] theorem q_un {f : PD → Option PD} {a : XE} : xUn f a v = (a v).bind f := (rfl)
@[simp] theorem q_nil : xNil v = some [] := (rfl)
@[simp] theorem q_cons {a : XE} {as : XA} : xCons a as v = (a v).bind fun x => (as v).bind fun xs => some (x :: xs) := (rfl)
@[simp] theorem q_tup {as : XA} : xTup as v = (as v).bind fun ds => grd (ds.length ≤ 100000) (some (.tuple ds)) := by
  unfold xTup
  simp only [grd_ite]
@[simp] theorem q_lst {as : XA} : xLst as v = (as v).bind fun ds => grd (ds.length ≤ 100000) (some (.list ds)) := by
  unfold xLst
  simp only [grd_ite]
@[simp] theorem q_cb {f : List PD → Option PD} {as : XA} : xCB f as v = (as v).bind f := (rfl)
@[simp] theorem q_isB {b : Bool} : isB (.bool b) = some b := (rfl)
@[simp] theorem q_B {a : XE} : xB a v = (a v).bind isB := (rfl)
@[simp] theorem q_tand {a b : XT} : xTAnd a b v = (a v).bind fun c => andO c (b v) := (rfl)
@[simp] theorem q_tor {a b : XT} : xTOr a b v = (a v).bind fun c => orO c (b v) := (rfl)
@[simp] theorem q_tnot {a : XT} : xTNot a v = (a v).bind fun c => some (!c) := (rfl)
@[simp] theorem q_yes : xYes v = some true := (rfl)
@[simp] theorem q_and {a b : XE} : xAnd a b v = ((a v).bind isB).bind fun c => andV c (b v) := (rfl)
@[simp] theorem q_or {a b : XE} : xOr a b v = ((a v).bind isB).bind fun c => orV c (b v) := (rfl)
@[simp] theorem q_not {a : XE} : xNot a v = ((a v).bind isB).bind fun c => some (.bool (!c)) := (rfl)
@[simp] theorem q_if {c : XT} {a b : XE} : xIf c a b v = (c v).bind fun k => alt k (tag (a v)) (tag (b v)) := (rfl)
@[simp] theorem q_chain {f g : PD → PD → Option PD} {a b c : XE} : xChain f g a b c v = (a v).bind fun x => (b v).bind fun y => ((f x y).bind isB).bind fun k => andV k ((c v).bind fun z => g y z) := (rfl)
@[simp] theorem q_isi {t : Ty} {a : XE} : xIsi t a v = (a v).bind fun d => grd (full d = false) (some (.bool (isTy t d))) := by
  unfold xIsi
  congr 1
  funext d
  rw [← grd_ite]
  cases full d <;> rfl
@[simp] theorem q_nop : xNoPart v = some none := (rfl)
@[simp] theorem q_part {a : XE} : xPart a v = (a v).bind fun d => match d with | .int i => some (some i) | _ => none := (rfl)
@[simp] theorem q_sl {a : XE} {lo hi : XO} : xSl a lo hi v = (a v).bind fun d => (lo v).bind fun l => (hi v).bind fun h => slP d l h := (rfl)
@[simp] theorem q_idx {a b : XE} : xIdx a b v = (a v).bind fun x => (b v).bind fun y => idxP x y := (rfl)
@[simp] theorem q_on1 {f : PD → Option PD} {x : PD} : on1 f [x] = f x := (rfl)
@[simp] theorem q_on2 {f : PD → PD → Option PD} {x y : PD} : on2 f [x, y] = f x y := (rfl)
@[simp] theorem q_xiE {a : XE} : xiE a v = (a v).bind seqP := (rfl)
@[simp] theorem q_xiA {f : List PD → Option (List PD)} {as : XA} : xiA f as v = (as v).bind f := (rfl)
@[simp] theorem q_lc {src : XI} {g : XGV} {t : XT} {e : XE} {vs : List Nat} : xLc src g t e vs v = (src v).bind fun xs => grd (xs.length ≤ 40000) ((lcGo g t e (clear v vs) xs).bind fun ds => some (.list ds)) := by
  unfold xLc
  simp only [grd_ite]
@[simp] theorem q_clear_nil : clear v [] = v := (rfl)
@[simp] theorem q_clear_cons {i : Nat} {vs : List Nat} : clear v (i :: vs) = (clear v vs).set i none := (rfl)
@[simp] theorem q_gvName {i : Nat} {x : PD} : gvName i x v = some (v.set i (some x)) := (rfl)
@[simp] theorem q_gvNil : gvNil [] v = some v := (rfl)
@[simp] theorem q_gvCons {g : XGV} {gs : XGVs} {x : PD} {xs : List PD} : gvCons g gs (x :: xs) v = (g x v).bind fun v1 => gs xs v1 := (rfl)
@[simp] theorem q_gvTup {n : Nat} {gs : XGVs} {x : PD} : gvTup n gs x v = (seqP x).bind fun ds => grd (ds.length = n) (gs ds v) := by
  unfold gvTup
  simp only [grd_ite]
/-! operations -/
@[simp] theorem q_add_i {i j : Int} : addP (.int i) (.int j) = some (.int (i + j)) := (rfl)
@[simp] theorem q_add_l {xs ys : List PD} : addP (.list xs) (.list ys) = grd (xs.length + ys.length ≤ 100000) (some (.list (xs ++ ys))) := by
  unfold addP
  simp only [grd_ite]
@[simp] theorem q_add_t {xs ys : List PD} : addP (.tuple xs) (.tuple ys) = grd (xs.length + ys.length ≤ 100000) (some (.tuple (xs ++ ys))) := by
  unfold addP
  simp only [grd_ite]
@[simp] theorem q_sub {i j : Int} : subP (.int i) (.int j) = some (.int (i - j)) := (rfl)
@[simp] theorem q_div {i j : Int} : divP (.int i) (.int j) = grd (Dvr j) (some (.int (i / j))) := by
  unfold divP
  simp only [grd_ite]
  exact grd_iff ⟨fun h => ⟨h.1, h.2⟩, fun h => ⟨h.lo, h.hi⟩⟩
@[simp] theorem q_mod {i j : Int} : modP (.int i) (.int j) = grd (0 < j) (some (.int (i % j))) := by
  unfold modP
  simp only [grd_ite]
  rfl
@[simp] theorem q_pow {i j : Int} : powP (.int i) (.int j) = grd (0 ≤ j ∧ j ≤ 1000 ∧ In63 i) (some (.int (i ^ j.toNat))) := by
  unfold powP
  simp only [grd_ite]
  exact grd_iff ⟨fun h => ⟨h.1, h.2.1, h.2.2.1, h.2.2.2⟩, fun h => ⟨h.1, h.2.1, h.2.2.lo, h.2.2.hi⟩⟩
@[simp] theorem q_mul {i j : Int} : mulP (.int i) (.int j) = grd (In64 i ∨ In64 j) (some (.int (i * j))) := by
  unfold mulP
  simp only [grd_ite]
  exact grd_iff ⟨fun h => h.elim (fun h => .inl ⟨h.1, h.2⟩) fun h => .inr ⟨h.1, h.2⟩, fun h => h.elim (fun h => .inl ⟨h.lo, h.hi⟩) fun h => .inr ⟨h.lo, h.hi⟩⟩
@[simp] theorem q_lt {i j : Int} : ltP (.int i) (.int j) = some (.bool (decide (i < j))) := (rfl)
@[simp] theorem q_le {i j : Int} : leP (.int i) (.int j) = some (.bool (decide (i ≤ j))) := (rfl)
@[simp] theorem q_gtU {i j : Int} : gtU (.int i) (.int j) = some (.bool (decide (j < i))) := (rfl)
@[simp] theorem q_gt {i j : Int} : gtP (.int i) (.int j) = some (.bool (decide (j < i))) := (rfl)
@[simp] theorem q_ge {i j : Int} : geP (.int i) (.int j) = some (.bool (decide (j ≤ i))) := (rfl)
@[simp] theorem q_neg {i : Int} : negP (.int i) = some (.int (-i)) := (rfl)
theorem sh_int {i : Int} : SeqAt.shaped (.int i) = true := rfl
@[simp] theorem q_eq_i {i j : Int} : eqP (.int i) (.int j) = some (.bool (i == j)) := (rfl)
@[simp] theorem q_ne_i {i j : Int} : neP (.int i) (.int j) = some (.bool (!(i == j))) := (rfl)
@[simp] theorem q_is {x : PD} : isU x .none = some (.bool (isNone x)) := by cases x <;> rfl
@[simp] theorem q_isnt {x : PD} : isntU x .none = some (.bool (!isNone x)) := by cases x <;> rfl
@[simp] theorem q_isb {b c : Bool} : isU (.bool b) (.bool c) = some (.bool (b == c)) := (rfl)
@[simp] theorem q_isntb {b c : Bool} : isntU (.bool b) (.bool c) = some (.bool (b != c)) := (rfl)
@[simp] theorem q_isNone_n : isNone .none = true := (rfl)
@[simp] theorem q_isNone_i {i : Int} : isNone (.int i) = false := (rfl)
@[simp] theorem q_isNone_t {ds : List PD} : isNone (.tuple ds) = false := (rfl)
@[simp] theorem q_ix_t {ds : List PD} {i : Int} : ixP (.tuple ds) (.int i) = atI ds i := (rfl)
@[simp] theorem q_ix_l {ds : List PD} {i : Int} : ixP (.list ds) (.int i) = atI ds i := (rfl)
@[simp] theorem q_ix_s {ds : List PD} {i : Int} : ixP (scrD ds) (.int i) = atI ds i := (rfl)
@[simp] theorem q_sl_t {ds : List PD} {lo hi : Option Int} : slP (.tuple ds) lo hi = some (.tuple (cutD ds lo hi)) := (rfl)
@[simp] theorem q_sl_l {ds : List PD} {lo hi : Option Int} : slP (.list ds) lo hi = some (.list (cutD ds lo hi)) := (rfl)
@[simp] theorem q_sl_s {ds : List PD} {lo hi : Option Int} : slP (scrD ds) lo hi = some (.list (cutD ds lo hi)) := (rfl)
@[simp] theorem q_seq_t {ds : List PD} : seqP (.tuple ds) = some ds := (rfl)
@[simp] theorem q_seq_l {ds : List PD} : seqP (.list ds) = some ds := (rfl)
@[simp] theorem q_seq_s {ds : List PD} : seqP (scrD ds) = some ds := (rfl)
@[simp] theorem q_len_t {ds : List PD} : lenP (.tuple ds) = some (natD ds.length) := (rfl)
@[simp] theorem q_len_l {ds : List PD} : lenP (.list ds) = some (natD ds.length) := (rfl)
@[simp] theorem q_len_s {ds : List PD} : lenP (scrD ds) = some (natD ds.length) := (rfl)
@[simp] theorem q_tupP_l {ds : List PD} : tupP (.list ds) = some (.tuple ds) := (rfl)
@[simp] theorem q_tupP_t {ds : List PD} : tupP (.tuple ds) = some (.tuple ds) := (rfl)
@[simp] theorem q_listP_l {ds : List PD} : listP (.list ds) = some (.list ds) := (rfl)
@[simp] theorem q_listP_t {ds : List PD} : listP (.tuple ds) = some (.list ds) := (rfl)
@[simp] theorem q_absP {i : Int} : absP (.int i) = some (.int (if i < 0 then -i else i)) := (rfl)
@[simp] theorem q_enum_t {ds : List PD} : enumP [.tuple ds] = some (pairsD ds) := (rfl)
@[simp] theorem q_enum_l {ds : List PD} : enumP [.list ds] = some (pairsD ds) := (rfl)
@[simp] theorem q_zip_t {ds es : List PD} : zipP [.tuple ds, .tuple es] = some (zipD ds es) := (rfl)
@[simp] theorem q_zip_l {ds es : List PD} : zipP [.list ds, .list es] = some (zipD ds es) := (rfl)
theorem rng_eq {i : Int} {n : Nat} : (List.range n).map (fun k => PyData.int (i + (k : Nat))) = (List.range n).map fun (k : Nat) => PyData.int (i + (k : Int)) := (rfl)
@[simp] theorem q_rng {j : Int} : rngP [.int j] = grd (In62 j) (some ((List.range j.toNat).map natD)) := by
  have e : (List.range j.toNat).map (fun k => PyData.int (0 + (k : Nat))) = (List.range j.toNat).map natD := by
    apply List.map_congr_left
    intro k _
    rw [Int.zero_add]
  unfold rngP
  dsimp only
  rw [e, grd_ite]
  exact grd_iff ⟨fun h => ⟨h.1, h.2⟩, fun h => ⟨h.lo, h.hi⟩⟩
@[simp] theorem q_full_n : full .none = false := (rfl)
@[simp] theorem q_full_b {b : Bool} : full (.bool b) = false := (rfl)
@[simp] theorem q_full_i {i : Int} : full (.int i) = false := (rfl)
@[simp] theorem q_full_s {x : Str} : full (.str x) = false := (rfl)
@[simp] theorem q_full_l {ds : List PD} : full (.list ds) = false := (rfl)
@[simp] theorem q_full_t {ds : List PD} : full (.tuple ds) = false := (rfl)
@[simp] theorem q_full_d : full (.dict []) = false := (rfl)
@[simp] theorem q_flat_n : flat .none = true := by simp [flat]
@[simp] theorem q_flat_b {b : Bool} : flat (.bool b) = true := by simp [flat]
@[simp] theorem q_flat_i {i : Int} : flat (.int i) = true := by simp [flat]
@[simp] theorem q_flat_s {x : Str} : flat (.str x) = true := by simp [flat]
@[simp] theorem q_flat_t {ds : List PD} : flat (.tuple ds) = flats ds := by simp [flat]
@[simp] theorem q_flats_nil : flats [] = true := by simp [flats]
@[simp] theorem q_flats_cons {d : PD} {ds : List PD} : flats (d :: ds) = (flat d && flats ds) := by simp [flats]
/-! over the state -/
@[simp] theorem q_wM {x : XE} : wM x ρ = (x (mk ρ)).bind fun d => some (d, ρ) := (rfl)
@[simp] theorem q_wV {x : XE} : wV x ρ = (x (vw ρ)).bind fun d => grd (flat d = true) (some (d, ρ)) := by
  unfold wV
  simp only [grd_ite]
@[simp] theorem q_wMT {x : XT} : wMT x ρ = (x (mk ρ)).bind fun d => some (d, ρ) := (rfl)
@[simp] theorem q_wVT {x : XT} : wVT x ρ = (x (vw ρ)).bind fun d => some (d, ρ) := (rfl)
@[simp] theorem q_wNil : wNil ρ = some ([], ρ) := (rfl)
@[simp] theorem q_wCons {a : XW} {as : XWA} : wCons a as ρ = (a ρ).bind fun x => (as x.2).bind fun xs => some (x.1 :: xs.1, xs.2) := (rfl)
@[simp] theorem q_wOp {f : PD → PD → Option PD} {a b : XW} : wOp f a b ρ = (a ρ).bind fun x => (b x.2).bind fun y => (f x.1 y.1).bind fun z => some (z, y.2) := (rfl)
@[simp] theorem q_wTup {as : XWA} : wTup as ρ = (as ρ).bind fun x => grd (x.1.length ≤ 100000) (some (.tuple x.1, x.2)) := by
  unfold wTup
  simp only [grd_ite]
@[simp] theorem q_wLst {as : XWA} : wLst as ρ = (as ρ).bind fun x => grd (x.1.length ≤ 100000) (some (.list x.1, x.2)) := by
  unfold wLst
  simp only [grd_ite]
@[simp] theorem q_wCB {f : List PD → Option PD} {as : XWA} : wCB f as ρ = (as ρ).bind fun x => (f x.1).bind fun z => some (z, x.2) := (rfl)
@[simp] theorem q_wB {a : XW} : wB a ρ = (a ρ).bind fun x => (isB x.1).bind fun b => some (b, x.2) := (rfl)
@[simp] theorem q_wIf {c : XWT} {a b : XW} : wIf c a b ρ = (c ρ).bind fun k => alt k.1 (tag (a k.2)) (tag (b k.2)) := (rfl)
@[simp] theorem q_wCallK {i : Nat} {g : List Cel → List PD → Option (PD × List Cel)} {as : XWA} : wCallK i g as ρ = (ownAt ρ i).bind fun _ => (as ρ).bind fun x => (ownAt x.2 i).bind fun cs => (g cs x.1).bind fun y => some (y.1, x.2.set i (.own y.2)) := (rfl)
@[simp] theorem q_ownAt0 {cs : List Cel} {r : Env} : ownAt (.own cs :: r) 0 = some cs := (rfl)
@[simp] theorem q_ownAtS {s : Sl} {r : Env} {i : Nat} : ownAt (s :: r) (i + 1) = ownAt r i := (rfl)
@[simp] theorem q_wFz {o : XWO} : wFz o ρ = (o ρ).bind fun x => some (.list (x.1.map Cel.pd), x.2) := (rfl)
@[simp] theorem q_wOM {x : XE} : wOM x ρ = ((x (mk ρ)).bind asList).bind fun ds => some (dats ds, ρ) := (rfl)
@[simp] theorem q_wOV {x : XE} : wOV x ρ = ((x (vw ρ)).bind asList).bind fun ds => grd (flats ds = true) (some (dats ds, ρ)) := by
  unfold wOV
  simp only [grd_ite]
  rfl
@[simp] theorem q_asList {ds : List PD} : asList (.list ds) = some ds := (rfl)
@[simp] theorem q_wOL {as : XWC} : wOL as ρ = (as ρ).bind fun x => grd (x.1.length ≤ 100000) (some x) := by
  unfold wOL
  simp only [grd_ite]
@[simp] theorem q_wcNil : wcNil ρ = some ([], ρ) := (rfl)
@[simp] theorem q_wcDat {a : XW} {as : XWC} : wcDat a as ρ = (a ρ).bind fun x => (as x.2).bind fun xs => some (.dat x.1 :: xs.1, xs.2) := (rfl)
@[simp] theorem q_wcSub {a : XWO} {as : XWC} : wcSub a as ρ = (a ρ).bind fun x => (allDat x.1).bind fun ds => (as x.2).bind fun xs => some (.sub ds :: xs.1, xs.2) := (rfl)
@[simp] theorem q_allDat {ds : List PD} : allDat (dats ds) = some ds := @allDat_map kk0 ds
@[simp] theorem q_allDat_nil : allDat [] = some [] := (rfl)
@[simp] theorem q_wCallD {f : List PD → Option (List Cel)} {as : XWA} : wCallD f as ρ = (as ρ).bind fun x => (f x.1).bind fun cs => some (cs, x.2) := (rfl)
@[simp] theorem q_wPop {i : Nat} {a : XW} : wPop i a ρ = (ownAt ρ i).bind fun _ => (a ρ).bind fun x => (isI x.1).bind fun k => (ownAt x.2 i).bind fun cs => grd (In63e k) ((ixN cs.length k).bind fun n => (datAt cs n).bind fun d => some (d, x.2.set i (.own (cs.eraseIdx n)))) := by
  unfold wPop
  simp only [grd_ite]
  congr 1; funext _; congr 1; funext x; congr 1; funext k; congr 1; funext cs
  exact grd_iff ⟨fun h => ⟨h.1, h.2⟩, fun h => ⟨h.lo, h.hi⟩⟩
@[simp] theorem q_isI {i : Int} : isI (.int i) = some i := (rfl)
@[simp] theorem q_wiE {a : XW} : wiE a ρ = (a ρ).bind fun x => (seqP x.1).bind fun xs => some (xs, x.2) := (rfl)
@[simp] theorem q_wiA {f : List PD → Option (List PD)} {as : XWA} : wiA f as ρ = (as ρ).bind fun x => (f x.1).bind fun xs => some (xs, x.2) := (rfl)
@[simp] theorem q_gName {i : Nat} {x : PD} : gName' i x ρ = some (ρ.set i (.dat x)) := (rfl)
@[simp] theorem q_gNil : gNil' [] ρ = some ρ := (rfl)
@[simp] theorem q_gCons {g : XG} {gs : XGs} {x : PD} {xs : List PD} : gCons' g gs (x :: xs) ρ = (g x ρ).bind fun v1 => gs xs v1 := (rfl)
@[simp] theorem q_gTup {n : Nat} {gs : XGs} {x : PD} : gTup' n gs x ρ = (seqP x).bind fun ds => grd (ds.length = n) (gs ds ρ) := by
  unfold gTup'
  simp only [grd_ite]
/-! statements -/
@[simp] theorem q_sNext : sNext ρ = some (.nxt ρ) := (rfl)
@[simp] theorem q_sRet {w : XW} : sRet w ρ = (w ρ).bind fun x => some (.ret x.1 x.2) := (rfl)
@[simp] theorem q_sRetO {w : XWO} : sRetO w ρ = (w ρ).bind fun x => some (.retO x.1 x.2) := (rfl)
@[simp] theorem q_sIf {c : XWT} {x y : XS} : sIf c x y ρ = (c ρ).bind fun k => alt k.1 (tag (x k.2)) (tag (y k.2)) := (rfl)
@[simp] theorem q_sAsg {g : XG} {w : XW} : sAsg g w ρ = (w ρ).bind fun x => (g x.1 x.2).bind fun ρ1 => some (.nxt ρ1) := (rfl)
@[simp] theorem q_sOwn {i : Nat} {w : XWO} : sOwn i w ρ = (w ρ).bind fun x => grd (i < x.2.length) (some (.nxt (x.2.set i (.own x.1)))) := by
  unfold sOwn
  simp only [grd_ite]
@[simp] theorem q_sDrop {w : XW} : sDrop w ρ = (w ρ).bind fun x => some (.nxt x.2) := (rfl)
@[simp] theorem q_toSl_d {d : PD} : toSl (.dat d) = .dat d := (rfl)
@[simp] theorem q_toSl_s {ds : List PD} : toSl (.sub ds) = .own (dats ds) := (rfl)
@[simp] theorem q_two {c e : Cel} : two [c, e] = some (c, e) := (rfl)
@[simp] theorem q_sPar {i j : Nat} {as : XWC} : sPar i j as ρ = (as ρ).bind fun x => (two x.1).bind fun c => grd (i < x.2.length ∧ j < x.2.length) (some (.nxt ((x.2.set i (toSl c.1)).set j (toSl c.2)))) := by
  unfold sPar
  simp only [grd_ite]
@[simp] theorem q_sApp {i : Nat} {a : XW} : sApp i a ρ = (ownAt ρ i).bind fun _ => (a ρ).bind fun x => (ownAt x.2 i).bind fun cs => grd (cs.length < 100000) (some (.nxt (x.2.set i (.own (cs ++ [.dat x.1]))))) := by
  unfold sApp
  simp only [grd_ite]
@[simp] theorem q_sSet {i : Nat} {k : XE} {a : XW} : sSet i k a ρ = (a ρ).bind fun x => (ownAt x.2 i).bind fun cs => ((k (vw x.2)).bind isI).bind fun k => (ixN cs.length k).bind fun n => (datAt cs n).bind fun _ => some (.nxt (x.2.set i (.own (cs.set n (.dat x.1))))) := (rfl)
@[simp] theorem q_sSetS {i : Nat} {k j : XE} {a : XW} : sSetS i k j a ρ = (a ρ).bind fun x => (ownAt x.2 i).bind fun cs => ((k (vw x.2)).bind isI).bind fun k => (ixN cs.length k).bind fun n => (subAt cs n).bind fun ds => ((j (vw x.2)).bind isI).bind fun j => (ixN ds.length j).bind fun m => some (.nxt (x.2.set i (.own (cs.set n (.sub (ds.set m x.1)))))) := (rfl)
@[simp] theorem q_sFz {i : Nat} {y : XS} : sFz i y ρ = y (fzE ρ i) := (rfl)
@[simp] theorem q_fz0 {cs : List Cel} {r : Env} : fzE (.own cs :: r) 0 = .dat (.list (cs.map Cel.pd)) :: r := (rfl)
@[simp] theorem q_fzS {s : Sl} {r : Env} {i : Nat} : fzE (s :: r) (i + 1) = s :: fzE r i := by
  unfold fzE
  rw [List.getElem?_cons_succ]
  cases h : r[i]? with
  | none => rfl
  | some q => cases q <;> rfl
@[simp] theorem q_sFor {src : XWI} {g : XG} {b : XS} : sFor src g b ρ = (src ρ).bind fun x => forGo g b x.1 x.2 := (rfl)
end
end Uv

namespace Uv
open PySem PySem.Spec PyProof.Rows L2
section
variable {ρ : Env} {v : VE}
/-! ### further functions at work -/
@[simp] theorem q_wUn {f : PD → Option PD} {a : XW} : wUn f a ρ = (a ρ).bind fun x => (f x.1).bind fun z => some (z, x.2) := (rfl)
@[simp] theorem q_wTAnd {a b : XWT} : wTAnd a b ρ = (a ρ).bind fun c => alt c.1 (tag (b c.2)) (tag (some (false, c.2))) := (rfl)
@[simp] theorem q_wTOr {a b : XWT} : wTOr a b ρ = (a ρ).bind fun c => alt c.1 (tag (some (true, c.2))) (tag (b c.2)) := (rfl)
@[simp] theorem q_wTNot {a : XWT} : wTNot a ρ = (a ρ).bind fun c => some (!c.1, c.2) := (rfl)
@[simp] theorem q_wAnd {a b : XW} : wAnd a b ρ = (wB a ρ).bind fun c => alt c.1 (tag (b c.2)) (tag (some (.bool false, c.2))) := (rfl)
@[simp] theorem q_wOr {a b : XW} : wOr a b ρ = (wB a ρ).bind fun c => alt c.1 (tag (some (.bool true, c.2))) (tag (b c.2)) := (rfl)
@[simp] theorem q_wNot {a : XW} : wNot a ρ = (wB a ρ).bind fun c => some (.bool (!c.1), c.2) := (rfl)
@[simp] theorem q_sExt {i : Nat} {a : XW} : sExt i a ρ = (ownAt ρ i).bind fun _ => (a ρ).bind fun x => (asList x.1).bind fun ds => (ownAt x.2 i).bind fun cs => grd (cs.length + ds.length ≤ 100000) (some (.nxt (x.2.set i (.own (cs ++ dats ds))))) := by
  unfold sExt
  simp only [grd_ite]
  rfl
@[simp] theorem q_sIns {i : Nat} {as : XWA} : sIns i as ρ = (ownAt ρ i).bind fun _ => (as ρ).bind fun x => (insA x.1).bind fun kd => (ownAt x.2 i).bind fun cs => grd (cs.length < 100000 ∧ 0 ≤ kd.1 ∧ In63e kd.1) (some (.nxt (x.2.set i (.own (cs.take kd.1.toNat ++ [.dat kd.2] ++ cs.drop kd.1.toNat))))) := by
  unfold sIns
  simp only [grd_ite]
  congr 1; funext _; congr 1; funext x; congr 1; funext k; congr 1; funext cs
  exact grd_iff ⟨fun h => ⟨h.1, h.2.1, by have := h.2.1; omega, h.2.2⟩, fun h => ⟨h.1, h.2.1, h.2.2.hi⟩⟩
@[simp] theorem q_insA {i : Int} {d : PD} : insA [.int i, d] = some (i, d) := (rfl)
@[simp] theorem q_sPopS {i : Nat} {k j : XE} : sPopS i k j ρ = (ownAt ρ i).bind fun cs => ((k (vw ρ)).bind isI).bind fun k => (ixN cs.length k).bind fun n => (subAt cs n).bind fun ds => ((j (vw ρ)).bind isI).bind fun j => grd (In63e j) ((ixN ds.length j).bind fun m => some (.nxt (ρ.set i (.own (cs.set n (.sub (ds.eraseIdx m))))))) := by
  unfold sPopS
  simp only [grd_ite]
  congr 1; funext cs; congr 1; funext k; congr 1; funext n; congr 1; funext ds; congr 1; funext j
  exact grd_iff ⟨fun h => ⟨h.1, h.2⟩, fun h => ⟨h.lo, h.hi⟩⟩
def unAt (ρ : Env) (i : Nat) (x : Option Out) : Option Out := match ρ[i]? with
  | some .un => x
  | _ => none
@[simp] theorem unAt_0 {r : Env} {x : Option Out} : unAt (.un :: r) 0 x = x := (rfl)
@[simp] theorem unAt_S {s : Sl} {r : Env} {i : Nat} {x : Option Out} : unAt (s :: r) (i + 1) x = unAt r i x := (rfl)
@[simp] theorem q_sAppS {i : Nat} {k : XE} {a : XW} : sAppS i k a ρ = (ownAt ρ i).bind fun cs => ((k (vw ρ)).bind isI).bind fun kk => (ixN cs.length kk).bind fun n => (subAt cs n).bind fun ds => (a (ρ.set i .un)).bind fun x => unAt x.2 i (grd (ds.length < 100000) (some (.nxt (x.2.set i (.own (cs.set n (.sub (ds ++ [x.1])))))))) := by
  unfold sAppS
  simp only [grd_ite]
  rfl
@[simp] theorem q_sRetN : sRetN ρ = some (.ret .none ρ) := (rfl)
@[simp] theorem q_sCont : sCont ρ = some (.cnt ρ) := (rfl)
@[simp] theorem q_sBreak : sBreak ρ = some (.brk ρ) := (rfl)
@[simp] theorem q_sWhile {n : Nat} {c : XWT} {b : XS} : sWhile n c b ρ = whGo c b n ρ := (rfl)
@[simp] theorem q_wLc {src : XWI} {g : XG} {t : XWT} {e : XW} {vs : List Nat} : wLc src g t e vs ρ = (src ρ).bind fun x => grd (x.1.length ≤ 40000) ((wlGo g t e vs x.1 x.2).bind fun r => some (dats r.1, backE x.2 r.2 vs)) := by
  unfold wLc
  simp only [grd_ite]
  rfl
@[simp] theorem q_backE_nil {ρ1 : Env} : backE ρ1 ρ [] = ρ := (rfl)
@[simp] theorem q_backE_cons {ρ1 : Env} {i : Nat} {vs : List Nat} : backE ρ1 ρ (i :: vs) = (backE ρ1 ρ vs).set i (keepD ρ1[i]?) := (rfl)
@[simp] theorem q_keepD_d {d : PD} : keepD (some (.dat d)) = .dat d := (rfl)
@[simp] theorem q_keepD_u : keepD (some .un) = .un := (rfl)
@[simp] theorem q_keepD_o {cs : List Cel} : keepD (some (.own cs)) = .un := (rfl)
@[simp] theorem q_clearE_nil : clearE ρ [] = ρ := (rfl)
@[simp] theorem q_clearE_cons {i : Nat} {vs : List Nat} : clearE ρ (i :: vs) = (clearE ρ vs).set i .un := (rfl)
/-! ### where a def ends -/
def endP {Q : PD → Prop} (_ : Tag Q) : Out → Prop
  | .ret d _ => Q d
  | .nxt _ => Q .none
  | _ => False
def endW {Q : PD × List Cel → Prop} (_ : Tag Q) : Out → Prop
  | .ret d ρ => wp (ownAt ρ 0) (tag fun cs => Q (d, cs))
  | .nxt ρ => wp (ownAt ρ 0) (tag fun cs => Q (.none, cs))
  | _ => False
def endD' {Q : List Cel → Prop} (_ : Tag Q) : Out → Prop
  | .retO cs _ => Q cs
  | _ => False
section
variable {QP : PD → Prop} {QW : PD × List Cel → Prop} {QD : List Cel → Prop} {d : PD} {cs : List Cel}
@[simp] theorem endP_ret : endP (tag QP) (.ret d ρ) = QP d := (rfl)
@[simp] theorem endP_nxt : endP (tag QP) (.nxt ρ) = QP .none := (rfl)
@[simp] theorem endW_ret : endW (tag QW) (.ret d ρ) = wp (ownAt ρ 0) (tag fun cs => QW (d, cs)) := (rfl)
@[simp] theorem endW_nxt : endW (tag QW) (.nxt ρ) = wp (ownAt ρ 0) (tag fun cs => QW (.none, cs)) := (rfl)
@[simp] theorem endD_ret : endD' (tag QD) (.retO cs ρ) = QD cs := (rfl)
end
theorem wp_runP {n k : Nat} {X : XS} {ds : List PD} {Q : PD → Prop} (hn : ds.length = n) (h : wp (X (ds.map Sl.dat ++ List.replicate k Sl.un)) (tag (endP (tag Q)))) : wp (runP n k X ds) (tag Q) := by
  obtain ⟨o, e, h⟩ := h
  unfold runP
  rw [if_pos hn, e]
  cases o with
  | ret d ρ => exact ⟨_, rfl, h⟩
  | nxt ρ => exact ⟨_, rfl, h⟩
  | _ => exact h.elim
theorem wp_runW {n k : Nat} {X : XS} {cs : List Cel} {ds : List PD} {Q : PD × List Cel → Prop} (hn : ds.length = n) (h : wp (X (.own cs :: (ds.map Sl.dat ++ List.replicate k Sl.un))) (tag (endW (tag Q)))) : wp (runW n k X cs ds) (tag Q) := by
  obtain ⟨o, e, h⟩ := h
  unfold runW
  rw [if_pos hn, e]
  cases o with
  | ret d ρ =>
    obtain ⟨cs', e2, h2⟩ := h
    exact ⟨(d, cs'), by rw [Option.bind_some]; show (ownAt ρ 0).bind _ = _; rw [e2]; rfl, h2⟩
  | nxt ρ =>
    obtain ⟨cs', e2, h2⟩ := h
    exact ⟨(.none, cs'), by rw [Option.bind_some]; show (ownAt ρ 0).bind _ = _; rw [e2]; rfl, h2⟩
  | _ => exact h.elim
theorem wp_runD {n k : Nat} {X : XS} {ds : List PD} {Q : List Cel → Prop} (hn : ds.length = n) (h : wp (X (ds.map Sl.dat ++ List.replicate k Sl.un)) (tag (endD' (tag Q)))) : wp (runD n k X ds) (tag Q) := by
  obtain ⟨o, e, h⟩ := h
  unfold runD
  rw [if_pos hn, e]
  cases o with
  | retO d ρ => exact ⟨_, rfl, h⟩
  | _ => exact h.elim
/-- a value that is known -/
theorem eq_of_wp {α : Type} {o : Option α} {a : α} (h : wp o (tag fun x => x = a)) : o = some a := wp_eq.mp h
/-! ### loops -/
/-- what holds at a place of a loop: kept as it was written, only the state is run -/
structure Inv {J : Env → Prop} (t : Tag J) (ρ : Env) : Prop where
  of ::
  to : J ρ
def forK {J : Env → Prop} {Q : Out → Prop} (_ : Tag J) (_ : Tag Q) : Out → Prop
  | .nxt ρ => Inv (tag J) ρ
  | .cnt ρ => Inv (tag J) ρ
  | .brk ρ => Q (.nxt ρ)
  | .ret d ρ => Q (.ret d ρ)
  | .retO d ρ => Q (.retO d ρ)
section
variable {J : Env → Prop} {Q : Out → Prop} {d : PD} {cs : List Cel}
@[simp] theorem forK_nxt : forK (tag J) (tag Q) (.nxt ρ) = Inv (tag J) ρ := (rfl)
@[simp] theorem forK_cnt : forK (tag J) (tag Q) (.cnt ρ) = Inv (tag J) ρ := (rfl)
@[simp] theorem forK_brk : forK (tag J) (tag Q) (.brk ρ) = Q (.nxt ρ) := (rfl)
@[simp] theorem forK_ret : forK (tag J) (tag Q) (.ret d ρ) = Q (.ret d ρ) := (rfl)
@[simp] theorem forK_retO : forK (tag J) (tag Q) (.retO cs ρ) = Q (.retO cs ρ) := (rfl)
end
theorem wp_for {g : XG} {b : XS} {xs : List PD} {Q : Out → Prop} (I : Nat → Env → Prop) (h0 : I 0 ρ) (hs : ∀ (i : Nat) (h : i < xs.length) (ρ : Env), I i ρ → wp (g xs[i] ρ) (tag fun ρ1 => wp (b ρ1) (tag (forK (tag (I (i + 1))) (tag Q))))) (hq : ∀ ρ, I xs.length ρ → Q (.nxt ρ)) : wp (forGo g b xs ρ) (tag Q) := by
  induction xs generalizing ρ I with
  | nil => exact ⟨_, rfl, hq ρ h0⟩
  | cons x xs ih =>
    obtain ⟨ρ1, e1, o, e2, h2⟩ := hs 0 (Nat.succ_pos _) ρ h0
    have go : ∀ ρ2, I 1 ρ2 → wp (forGo g b xs ρ2) (tag Q) := fun ρ2 h3 => ih (fun i => I (i + 1)) h3 (fun i hi ρ hI => hs (i + 1) (Nat.succ_lt_succ hi) ρ hI) hq
    have e1 : g x ρ = some ρ1 := e1
    unfold forGo
    rw [e1, Option.bind_some, e2, Option.bind_some]
    cases o with
    | nxt ρ2 => exact go ρ2 h2.to
    | cnt ρ2 => exact go ρ2 h2.to
    | brk ρ2 => exact ⟨_, rfl, h2⟩
    | ret d ρ2 => exact ⟨_, rfl, h2⟩
    | retO d ρ2 => exact ⟨_, rfl, h2⟩
@[simp] theorem Inv_wp {g : Env → Option Out} {Q : Out → Prop} : Inv (tag fun ρ2 => wp (g ρ2) (tag Q)) ρ = wp (g ρ) (tag Q) := propext ⟨fun h => h.to, fun h => ⟨h⟩⟩
theorem wp_for_nil {g : XG} {b : XS} {Q : Out → Prop} : wp (forGo g b [] ρ) (tag Q) = Q (.nxt ρ) := by unfold forGo; exact wp_some
theorem wp_for_cons {g : XG} {b : XS} {x : PD} {xs : List PD} {Q : Out → Prop} : wp (forGo g b (x :: xs) ρ) (tag Q) = wp (g x ρ) (tag fun ρ1 => wp (b ρ1) (tag (forK (tag fun ρ2 => wp (forGo g b xs ρ2) (tag Q)) (tag Q)))) := by
  have e : forGo g b (x :: xs) ρ = (g x ρ).bind fun ρ1 => (b ρ1).bind fun o => match o with
    | .nxt ρ2 => forGo g b xs ρ2
    | .cnt ρ2 => forGo g b xs ρ2
    | .brk ρ2 => some (.nxt ρ2)
    | .ret d ρ2 => some (.ret d ρ2)
    | .retO d ρ2 => some (.retO d ρ2) := rfl
  rw [e, wp_bind]
  apply propext
  have k : ∀ o : Out, wp (match o with
    | .nxt ρ2 => forGo g b xs ρ2
    | .cnt ρ2 => forGo g b xs ρ2
    | .brk ρ2 => some (.nxt ρ2)
    | .ret d ρ2 => some (.ret d ρ2)
    | .retO d ρ2 => some (.retO d ρ2)) (tag Q) ↔ forK (tag fun ρ2 => wp (forGo g b xs ρ2) (tag Q)) (tag Q) o := fun o => by cases o <;> simp
  constructor
  · exact fun h => wp_mono h fun ρ1 h1 => wp_mono (by rw [wp_bind] at h1; exact h1) fun o h2 => (k o).mp h2
  · exact fun h => wp_mono h fun ρ1 h1 => by rw [wp_bind]; exact wp_mono h1 fun o h2 => (k o).mpr h2
theorem wp_forM {α : Type} {g : XG} {b : XS} {l : List α} {enc : α → PD} {Q : Out → Prop} (I : Nat → Env → Prop) (h0 : I 0 ρ) (hs : ∀ (i : Nat) (h : i < l.length) (ρ : Env), I i ρ → wp (g (enc l[i]) ρ) (tag fun ρ1 => wp (b ρ1) (tag (forK (tag (I (i + 1))) (tag Q))))) (hq : ∀ ρ, I l.length ρ → Q (.nxt ρ)) : wp (forGo g b (l.map enc) ρ) (tag Q) :=
  wp_for I h0 (fun i h ρ hI => by
    rw [List.getElem_map]
    exact hs i (by simpa using h) ρ hI) (fun ρ h => hq ρ (by simpa using h))
theorem wp_forR {g : XG} {b : XS} {n : Nat} {Q : Out → Prop} (I : Nat → Env → Prop) (h0 : I 0 ρ) (hs : ∀ (i : Nat) (h : i < n) (ρ : Env), I i ρ → wp (g (natD i) ρ) (tag fun ρ1 => wp (b ρ1) (tag (forK (tag (I (i + 1))) (tag Q))))) (hq : ∀ ρ, I n ρ → Q (.nxt ρ)) : wp (forGo g b ((List.range n).map natD) ρ) (tag Q) :=
  wp_forM I h0 (fun i h ρ hI => by
    rw [List.getElem_range]
    exact hs i (by simpa using h) ρ hI) (fun ρ h => hq ρ (by simpa using h))
theorem pairsD_map {α : Type} (enc : α → PD) (xs : List α) : pairsD (xs.map enc) = (xs.zipIdx).map fun p => .tuple [natD p.2, enc p.1] := by
  unfold pairsD
  rw [List.zipIdx_map, List.map_map]
  rfl
@[simp] theorem pairsD_len {xs : List PD} : (pairsD xs).length = xs.length := by unfold pairsD; simp
theorem wp_forE {α : Type} {g : XG} {b : XS} {l : List α} {enc : α → PD} {Q : Out → Prop} (I : Nat → Env → Prop) (h0 : I 0 ρ) (hs : ∀ (i : Nat) (h : i < l.length) (ρ : Env), I i ρ → wp (g (.tuple [natD i, enc l[i]]) ρ) (tag fun ρ1 => wp (b ρ1) (tag (forK (tag (I (i + 1))) (tag Q))))) (hq : ∀ ρ, I l.length ρ → Q (.nxt ρ)) : wp (forGo g b (pairsD (l.map enc)) ρ) (tag Q) := by
  rw [pairsD_map]
  refine wp_forM I h0 (fun i h ρ hI => ?_) (fun ρ h => hq ρ (by simpa using h))
  have h' : i < l.length := by simpa using h
  have := hs i h' ρ hI
  simp only [List.getElem_zipIdx, Nat.zero_add]
  exact this
theorem wp_while {c : XWT} {b : XS} {n : Nat} {Q : Out → Prop} (I : Nat → Env → Prop) {k : Nat} (hk : k < n) (h0 : I k ρ) (hs : ∀ (k : Nat) (ρ : Env), I k ρ → wp (c ρ) (tag fun x => (x.1 = false → Q (.nxt x.2)) ∧ (x.1 = true → wp (b x.2) (tag (forK (tag fun ρ => ∃ j, j < k ∧ I j ρ) (tag Q)))))) : wp (whGo c b n ρ) (tag Q) := by
  induction n generalizing k ρ with
  | zero => omega
  | succ n ih =>
    obtain ⟨⟨t, ρ1⟩, e1, h1, h2⟩ := hs k ρ h0
    unfold whGo
    rw [e1, Option.bind_some]
    cases t with
    | false => exact ⟨_, rfl, h1 rfl⟩
    | true =>
      obtain ⟨o, e2, h3⟩ := h2 rfl
      have e2 : b ρ1 = some o := e2
      simp only [if_true, e2, Option.bind_some]
      cases o with
      | nxt ρ2 => obtain ⟨j, hj, hI⟩ := h3.to; exact ih (by omega) hI
      | cnt ρ2 => obtain ⟨j, hj, hI⟩ := h3.to; exact ih (by omega) hI
      | brk ρ2 => exact ⟨_, rfl, h3⟩
      | ret d ρ2 => exact ⟨_, rfl, h3⟩
      | retO d ρ2 => exact ⟨_, rfl, h3⟩
/-! ### comprehensions -/
theorem wp_lc {α : Type} {g : XGV} {t : XT} {e : XE} {enc : α → PD} (p : α → Bool) (f : α → PD) {l : List α} {Q : List PD → Prop} (h : ∀ x ∈ l, wp (g (enc x) v) (tag fun v1 => wp (t v1) (tag fun b => b = p x ∧ (p x = true → wp (e v1) (tag fun d => d = f x))))) (hq : Q ((l.filter p).map f)) : wp (lcGo g t e v (l.map enc)) (tag Q) := by
  have main : ∀ l : List α, (∀ x ∈ l, wp (g (enc x) v) (tag fun v1 => wp (t v1) (tag fun b => b = p x ∧ (p x = true → wp (e v1) (tag fun d => d = f x))))) → lcGo g t e v (l.map enc) = some ((l.filter p).map f) := by
    intro l
    induction l with
    | nil => intro _; rfl
    | cons x xs ih =>
      intro h
      obtain ⟨v1, h1, b, h2, hb, h3⟩ := h x (List.mem_cons_self ..)
      subst hb
      have ih := ih fun y hy => h y (List.mem_cons_of_mem _ hy)
      rw [List.map_cons]
      unfold lcGo
      rw [h1, Option.bind_some, h2, Option.bind_some, ih]
      cases hp : p x with
      | true =>
        obtain ⟨d, h4, h5⟩ := h3 hp
        subst h5
        rw [if_pos rfl, h4, List.filter_cons, if_pos hp]
        rfl
      | false => rw [if_neg Bool.false_ne_true, List.filter_cons, if_neg (by rw [hp]; exact Bool.false_ne_true)]
  exact ⟨_, main l h, hq⟩
theorem wp_lcT {α : Type} {g : XGV} {e : XE} {enc : α → PD} (f : α → PD) {l : List α} {Q : List PD → Prop} (h : ∀ x ∈ l, wp (g (enc x) v) (tag fun v1 => wp (e v1) (tag fun d => d = f x))) (hq : Q (l.map f)) : wp (lcGo g xYes e v (l.map enc)) (tag Q) :=
  wp_lc (fun _ => true) f (fun x hx => wp_mono (h x hx) fun v1 h1 => ⟨true, rfl, rfl, fun _ => h1⟩) (by rw [List.filter_eq_self.mpr fun _ _ => rfl]; exact hq)
/-- over enumerate -/
theorem wp_lcE {α : Type} {g : XGV} {t : XT} {e : XE} {enc : α → PD} (p : α × Nat → Bool) (f : α × Nat → PD) {l : List α} {Q : List PD → Prop} (h : ∀ (i : Nat) (hi : i < l.length), wp (g (.tuple [natD i, enc l[i]]) v) (tag fun v1 => wp (t v1) (tag fun b => b = p (l[i], i) ∧ (p (l[i], i) = true → wp (e v1) (tag fun d => d = f (l[i], i)))))) (hq : Q ((l.zipIdx.filter p).map f)) : wp (lcGo g t e v (pairsD (l.map enc))) (tag Q) := by
  rw [pairsD_map]
  refine wp_lc p f (fun x hx => ?_) hq
  obtain ⟨y, i⟩ := x
  obtain ⟨h1, h2⟩ := List.mem_zipIdx' hx
  have h2 : y = l[i] := h2
  rw [h2]
  exact h i h1
theorem wp_lcET {α : Type} {g : XGV} {e : XE} {enc : α → PD} (f : α × Nat → PD) {l : List α} {Q : List PD → Prop} (h : ∀ (i : Nat) (hi : i < l.length), wp (g (.tuple [natD i, enc l[i]]) v) (tag fun v1 => wp (e v1) (tag fun d => d = f (l[i], i)))) (hq : Q (l.zipIdx.map f)) : wp (lcGo g xYes e v (pairsD (l.map enc))) (tag Q) :=
  wp_lcE (fun _ => true) f (fun i hi => wp_mono (h i hi) fun v1 h1 => ⟨true, rfl, rfl, fun _ => h1⟩) (by rw [List.filter_eq_self.mpr fun _ _ => rfl]; exact hq)
/-- a comprehension that draws; what is kept, by a word of each item -/
theorem wp_wl {g : XG} {t : XWT} {e : XW} {vs : List Nat} {xs : List PD} {Q : List PD × Env → Prop} (I : Nat → List PD → Env → Prop) (h0 : I 0 [] ρ) (hs : ∀ (i : Nat) (h : i < xs.length) (ds : List PD) (ρ : Env), I i ds ρ → wp (g xs[i] (clearE ρ vs)) (tag fun ρ1 => wp (t ρ1) (tag fun b => (b.1 = true → wp (e b.2) (tag fun d => Inv (tag (I (i + 1) (ds ++ [d.1]))) d.2)) ∧ (b.1 = false → Inv (tag (I (i + 1) ds)) b.2)))) (hq : ∀ ds ρ, I xs.length ds ρ → Q (ds, ρ)) : wp (wlGo g t e vs xs ρ) (tag Q) := by
  have main : ∀ (xs : List PD) (I : Nat → List PD → Env → Prop) (acc : List PD) (ρ : Env), I 0 acc ρ → (∀ (i : Nat) (h : i < xs.length) (ds : List PD) (ρ : Env), I i ds ρ → wp (g xs[i] (clearE ρ vs)) (tag fun ρ1 => wp (t ρ1) (tag fun b => (b.1 = true → wp (e b.2) (tag fun d => Inv (tag (I (i + 1) (ds ++ [d.1]))) d.2)) ∧ (b.1 = false → Inv (tag (I (i + 1) ds)) b.2)))) → ∃ ds ρ', wlGo g t e vs xs ρ = some (ds, ρ') ∧ I xs.length (acc ++ ds) ρ' := by
    intro xs
    induction xs with
    | nil => intro I acc ρ h0 _; exact ⟨[], ρ, rfl, by simpa using h0⟩
    | cons x xs ih =>
      intro I acc ρ h0 hs
      obtain ⟨ρ1, e1, ⟨b, ρ2⟩, e2, h1, h2⟩ := hs 0 (Nat.succ_pos _) acc ρ h0
      have e1 : g x (clearE ρ vs) = some ρ1 := e1
      unfold wlGo
      rw [e1, Option.bind_some, e2, Option.bind_some]
      cases b with
      | true =>
        obtain ⟨⟨d, ρ3⟩, e3, h3⟩ := h1 rfl
        obtain ⟨ds, ρ', e4, h4⟩ := ih (fun i => I (i + 1)) (acc ++ [d]) ρ3 h3.to fun i hi ds ρ hI => hs (i + 1) (Nat.succ_lt_succ hi) ds ρ hI
        refine ⟨d :: ds, ρ', ?_, by simpa using h4⟩
        have e3 : e ρ2 = some (d, ρ3) := e3
        simp only [if_true, e3, Option.bind_some, e4]
      | false =>
        obtain ⟨ds, ρ', e4, h4⟩ := ih (fun i => I (i + 1)) acc ρ2 (h2 rfl).to fun i hi ds ρ hI => hs (i + 1) (Nat.succ_lt_succ hi) ds ρ hI
        refine ⟨ds, ρ', ?_, by simpa using h4⟩
        simp [e4]
  obtain ⟨ds, ρ', e1, h1⟩ := main xs I [] ρ h0 hs
  exact ⟨_, e1, hq ds ρ' (by simpa using h1)⟩
theorem natD_toNat {r : Int} (h : 0 ≤ r) : natD r.toNat = .int r := by unfold natD; rw [Int.toNat_of_nonneg h]
theorem emod_nat {a b : Int} (hb : 0 < b) : ∃ j : Nat, (j : Int) < b ∧ a % b = (j : Int) := by
  have h1 := Int.emod_nonneg a (show b ≠ 0 by omega)
  have h2 := Int.emod_lt_of_pos a hb
  exact ⟨(a % b).toNat, by omega, by omega⟩
/-! ### places -/
theorem atI_nat' {α : Type} {xs : List α} {k : Nat} : atI xs (k : Int) = xs[k]? := by
  unfold atI ixN
  by_cases h : k < xs.length
  · rw [if_pos (by omega), if_pos (by omega)]
    simp
  · rw [if_pos (by omega), if_neg (by omega)]
    simp
    omega
theorem atI_at {α : Type} {xs : List α} {k : Nat} (h : k < xs.length) : atI xs (k : Int) = some xs[k] := by rw [atI_nat', List.getElem?_eq_getElem h]
theorem atI_map {α β : Type} {f : α → β} {xs : List α} {k : Nat} (h : k < xs.length) : atI (xs.map f) (k : Int) = some (f xs[k]) := by rw [atI_nat', List.getElem?_map, List.getElem?_eq_getElem h]; rfl
theorem atI_int {α β : Type} {f : α → β} {xs : List α} {k : Int} (h0 : 0 ≤ k) (h : k.toNat < xs.length) : atI (xs.map f) k = some (f xs[k.toNat]) := by
  obtain ⟨j, rfl⟩ : ∃ j : Nat, k = (j : Int) := ⟨k.toNat, by omega⟩
  exact atI_map (by simpa using h)
theorem atI_last {α : Type} {xs : List α} (h : xs ≠ []) : atI xs (-1) = some (xs.getLast h) := by
  unfold atI ixN
  have := List.length_pos_iff.mpr h
  rw [if_neg (by omega), if_pos (by omega)]
  simp [List.getLast_eq_getElem]
  rw [List.getElem?_eq_getElem (by omega)]
  congr 2
  omega
@[simp] theorem atI_0 {α : Type} {x : α} {xs : List α} : atI (x :: xs) 0 = some x := by simpa using atI_nat' (xs := x :: xs) (k := 0)
@[simp] theorem atI_1 {α : Type} {x y : α} {xs : List α} : atI (x :: y :: xs) 1 = some y := by simpa using atI_nat' (xs := x :: y :: xs) (k := 1)
@[simp] theorem atI_2 {α : Type} {x y z : α} {xs : List α} : atI (x :: y :: z :: xs) 2 = some z := by simpa using atI_nat' (xs := x :: y :: z :: xs) (k := 2)
@[simp] theorem atI_3 {α : Type} {x y z u : α} {xs : List α} : atI (x :: y :: z :: u :: xs) 3 = some u := by simpa using atI_nat' (xs := x :: y :: z :: u :: xs) (k := 3)
@[simp] theorem ixN_20 : ixN 2 0 = some 0 := (rfl)
@[simp] theorem ixN_21 : ixN 2 1 = some 1 := (rfl)
@[simp] theorem ixN_30 : ixN 3 0 = some 0 := (rfl)
@[simp] theorem ixN_31 : ixN 3 1 = some 1 := (rfl)
@[simp] theorem ixN_32 : ixN 3 2 = some 2 := (rfl)
@[simp] theorem ixN_40 : ixN 4 0 = some 0 := (rfl)
@[simp] theorem ixN_41 : ixN 4 1 = some 1 := (rfl)
@[simp] theorem ixN_42 : ixN 4 2 = some 2 := (rfl)
@[simp] theorem ixN_43 : ixN 4 3 = some 3 := (rfl)
theorem ixN_nat' {n k : Nat} (h : k < n) : ixN n (k : Int) = some k := by
  unfold ixN
  rw [if_pos (by omega), if_pos (by omega)]
  simp
theorem ixN_int {n : Nat} {k : Int} (h0 : 0 ≤ k) (h : k.toNat < n) : ixN n k = some k.toNat := by
  unfold ixN
  rw [if_pos (by omega), if_pos (by omega)]
@[simp] theorem datAt_0 {d : PD} {r : List Cel} : datAt (.dat d :: r) 0 = some d := (rfl)
@[simp] theorem datAt_S {c : Cel} {r : List Cel} {i : Nat} : datAt (c :: r) (i + 1) = datAt r i := (rfl)
@[simp] theorem subAt_0 {d : List PD} {r : List Cel} : subAt (.sub d :: r) 0 = some d := (rfl)
@[simp] theorem subAt_S {c : Cel} {r : List Cel} {i : Nat} : subAt (c :: r) (i + 1) = subAt r i := (rfl)
theorem subAt_set {os : List Cel} {s : Nat} {l : List PD} (h : s < os.length) : subAt (os.set s (.sub l)) s = some l := by
  unfold subAt
  rw [List.getElem?_set_self h]
/-- one of several, by a number -/
theorem wp_pick {α : Type} {l : List α} {r : Nat} {Q : α → Prop} (h : r < l.length) (hq : ∀ x ∈ l, Q x) : wp (atI l (r : Int)) (tag Q) := by
  rw [atI_at h]
  exact ⟨_, rfl, hq _ (List.getElem_mem h)⟩
/-! ### lists of numbers and truths -/
theorem unI_nats (ns : List Nat) : unI (ns.map natD) = some (ns.map fun (n : Nat) => (n : Int)) := by
  have e : ns.map natD = (ns.map fun (n : Nat) => (n : Int)).map PyData.int := by rw [List.map_map]; rfl
  rw [e]
  exact @unI_map kk0 _
theorem unI_of {α : Type} (f : α → Int) (l : List α) : unI (l.map fun x => PyData.int (f x)) = some (l.map f) := by
  have e : (l.map fun x => PyData.int (f x)) = (l.map f).map PyData.int := by rw [List.map_map]; rfl
  rw [e]
  exact @unI_map kk0 _
theorem unB_of {α : Type} (f : α → Bool) (l : List α) : unB (l.map fun x => PyData.bool (f x)) = some (l.map f) := by
  have e : (l.map fun x => PyData.bool (f x)) = (l.map f).map PyData.bool := by rw [List.map_map]; rfl
  rw [e]
  exact @unB_map kk0 _
end
end Uv
namespace Uv
theorem erase_perm {α : Type} : ∀ {l : List α} {j : Nat} (h : j < l.length), (l[j] :: l.eraseIdx j).Perm l
  | x :: xs, 0, _ => .refl _
  | x :: xs, j + 1, h => by
    have ih := erase_perm (l := xs) (j := j) (by simpa using h)
    simpa using (List.Perm.swap x (xs[j]'(by simpa using h)) (xs.eraseIdx j)).symm.symm.trans (ih.cons x)
theorem erase_map {α β : Type} (f : α → β) : ∀ (l : List α) (j : Nat), (l.map f).eraseIdx j = (l.eraseIdx j).map f
  | [], _ => rfl
  | x :: xs, 0 => rfl
  | x :: xs, j + 1 => by simp [erase_map f xs j]
end Uv

namespace Uv
open PySem PySem.Spec PyProof.Rows L2
/-! ### webs -/
structure Road where
  b : Option Nat
  e : Option Nat
  r : Int
structure Web where
  roads : List Road
  gives : List (List Nat)
  takes : List (List Nat)
def endD : Option Nat → PD
  | none => .none
  | some n => natD n
def roadD (x : Road) : PD := .tuple [endD x.b, endD x.e, .int x.r]
def natsD (l : List Nat) : PD := .tuple (l.map natD)
def webD (W : Web) : PD := .tuple [.tuple (W.roads.map roadD), .tuple (W.gives.map natsD), .tuple (W.takes.map natsD)]
def side (s : Nat) (x : Road) : Option Nat := if s = 0 then x.b else x.e
/-- the roads whose end of this side is the house -/
def atR (rs : List Road) (s h : Nat) : List Nat := (rs.zipIdx.filter fun p => side s p.1 == some h).map (·.2)
def OkRoad (n : Nat) (x : Road) : Prop := x.b ≠ x.e ∧ (∀ h, x.b = some h → h < n) ∧ (∀ h, x.e = some h → h < n) ∧ 0 ≤ x.r ∧ x.r ≤ 1000000000000
structure IsWeb (W : Web) : Prop where
  houses : 1 ≤ W.gives.length ∧ W.gives.length ≤ 8
  same : W.takes.length = W.gives.length
  count : 1 ≤ W.roads.length ∧ W.roads.length ≤ 20
  road : ∀ x ∈ W.roads, OkRoad W.gives.length x
  give : ∀ (h : Nat) (l : List Nat), W.gives[h]? = some l → l.Perm (atR W.roads 0 h)
  take : ∀ (h : Nat) (l : List Nat), W.takes[h]? = some l → l.Perm (atR W.roads 1 h)
theorem atR_lt {rs : List Road} {s h k : Nat} (hk : k ∈ atR rs s h) : k < rs.length := by
  unfold atR at hk
  obtain ⟨⟨x, j⟩, h1, rfl⟩ := List.mem_map.mp hk
  have h2 := (List.mem_filter.mp h1).1
  have h3 := List.mem_zipIdx h2
  simp at h3
  omega
theorem zip_sorted {α : Type} : ∀ (xs : List α) (n : Nat) (p : α × Nat → Bool), (((xs.zipIdx n).filter p).map (·.2)).Pairwise (· < ·) ∧ ∀ k ∈ ((xs.zipIdx n).filter p).map (·.2), n ≤ k
  | [], n, p => by simp
  | x :: xs, n, p => by
    obtain ⟨h1, h2⟩ := zip_sorted xs (n + 1) p
    rw [List.zipIdx_cons, List.filter_cons]
    by_cases c : p (x, n) = true
    · rw [if_pos c, List.map_cons]
      refine ⟨List.pairwise_cons.mpr ⟨fun k hk => by have := h2 k hk; show n < k; omega, h1⟩, fun k hk => ?_⟩
      rcases List.mem_cons.mp hk with e | e
      · rw [e]; exact Nat.le_refl _
      · have := h2 k e; omega
    · rw [if_neg c]
      exact ⟨h1, fun k hk => by have := h2 k hk; omega⟩
theorem atR_sorted (rs : List Road) (s h : Nat) : (atR rs s h).Pairwise (· < ·) := (zip_sorted rs 0 _).1
/-- the rising list of a house's roads is what any order of them is when sorted -/
theorem sort_perm {l m : List Nat} (p : l.Perm m) (hm : m.Pairwise (· < ·)) : sortI (l.map fun (n : Nat) => (n : Int)) = m.map fun (n : Nat) => (n : Int) := by
  refine @sorted_eq kk0 _ _ ((@sortI_perm kk0 _).trans (p.map _)) (@sortI_sorted kk0 _) ?_
  rw [List.pairwise_map]
  exact hm.imp fun h => by omega
end Uv

namespace Uv
open PySem PySem.Spec PyProof.Rows L2
/-! ### what repr tells, and what may be compared -/
theorem ok_app {a b : Str} (ha : PyData.strOk a = true) (hb : PyData.strOk b = true) : PyData.strOk (a ++ b) = true := by
  show ((a.cps ++ b.cps).all _) = true
  rw [Array.all_append]
  exact Bool.and_eq_true_iff.mpr ⟨ha, hb⟩
theorem ok_ofS (x : String) : PyData.strOk (Str.ofString x) = true := by
  rw [Str.ofString_eq_toList]
  unfold PyData.strOk
  simp only [List.all_toArray, List.all_map, List.all_eq_true]
  intro c _
  have := c.valid
  simp only [Function.comp_apply, decide_eq_true_eq]
  have h : c.toNat = c.val.toNat := rfl
  rcases this with h1 | h1
  · omega
  · omega
theorem ok_join {sep : Str} (hs : PyData.strOk sep = true) : ∀ {ts : List Str}, (∀ t ∈ ts, PyData.strOk t = true) → PyData.strOk (Str.join sep ts) = true
  | [], _ => by simp [Str.join, Str.empty, PyData.strOk]
  | [t], h => h t (List.mem_cons_self ..)
  | t :: u :: r, h => by
    show PyData.strOk (t ++ sep ++ Str.join sep (u :: r)) = true
    exact ok_app (ok_app (h t (List.mem_cons_self ..)) hs) (ok_join hs fun x hx => h x (List.mem_cons_of_mem _ hx))
theorem ok_from : ∀ {ts : List Str} {k : Nat} {acc : Str}, PyData.strOk acc = true → (∀ t ∈ ts, PyData.strOk t = true) → PyData.strOk (textFrom k acc ts) = true
  | [], _, _, ha, _ => ha
  | t :: r, k, acc, ha, h => by
    show PyData.strOk (textFrom (k + 1) _ r) = true
    exact ok_from (ok_app (ok_app ha (ok_ofS _)) (h t (List.mem_cons_self ..))) fun x hx => h x (List.mem_cons_of_mem _ hx)
structure Sho (k n : Nat) (d : PD) : Prop where
  sh : d.showable = true
  nd : d.hasDict = false
  dp : d.depth ≤ k
  ln : d.shown.length ≤ n
  ok : PyData.strOk d.shown = true
section
variable {k n : Nat} {d : PD} {ds : List PD}
theorem Sho.mono {k' n' : Nat} (h : Sho k n d) (hk : k ≤ k') (hn : n ≤ n') : Sho k' n' d := ⟨h.sh, h.nd, Nat.le_trans h.dp hk, Nat.le_trans h.ln hn, h.ok⟩
theorem Sho.non : Sho k 5 .none := ⟨rfl, rfl, Nat.zero_le _, by decide, ok_ofS _⟩
theorem Sho.bool {b : Bool} : Sho k 5 (.bool b) := ⟨rfl, rfl, Nat.zero_le _, by cases b <;> decide, by cases b <;> exact ok_ofS _⟩
theorem Sho.int {i : Int} (h : i.natAbs < 10 ^ 40) : Sho k 41 (.int i) := by
  refine ⟨?_, rfl, Nat.zero_le _, ?_, ok_ofS _⟩
  · rw [PyData.showable, decide_eq_true_eq]
    by_cases c : i.natAbs = 0
    · rw [c]; decide
    · have : i.natAbs.log2 < 140 := (Nat.log2_lt c).mpr (Nat.lt_of_lt_of_le h (by decide))
      omega
  · show (Str.ofString (toString i)).length ≤ 41
    rw [PySem.ofString_length]
    exact int_text_length_le10 (k := 40) (by decide) h
theorem all_show (h : ∀ d ∈ ds, PyData.showable d = true) : PyData.showableAll ds = true := by
  induction ds with
  | nil => rfl
  | cons d ds ih => rw [PyData.showableAll, h d (List.mem_cons_self ..), ih fun x hx => h x (List.mem_cons_of_mem _ hx)]; rfl
theorem all_noD (h : ∀ d ∈ ds, PyData.hasDict d = false) : PyData.hasDictAll ds = false := by
  induction ds with
  | nil => rfl
  | cons d ds ih => rw [PyData.hasDictAll, h d (List.mem_cons_self ..), ih fun x hx => h x (List.mem_cons_of_mem _ hx)]; rfl
theorem all_depth (h : ∀ d ∈ ds, PyData.depth d ≤ n) : PyData.depthAll ds ≤ n := by
  induction ds with
  | nil => exact Nat.zero_le _
  | cons d ds ih =>
    have h1 := h d (List.mem_cons_self ..)
    have h2 := ih fun x hx => h x (List.mem_cons_of_mem _ hx)
    rw [PyData.depthAll]
    omega
theorem all_shown (h : ∀ d ∈ ds, PyData.strOk d.shown = true) : ∀ t ∈ PyData.shownAll ds, PyData.strOk t = true := by
  induction ds with
  | nil => intro t ht; exact nomatch ht
  | cons d ds ih =>
    intro t ht
    rw [PyData.shownAll] at ht
    rcases List.mem_cons.mp ht with e | e
    · rw [e]; exact h d (List.mem_cons_self ..)
    · exact ih (fun x hx => h x (List.mem_cons_of_mem _ hx)) t e
theorem all_len (h : ∀ d ∈ ds, d.shown.length ≤ n) : ((PyData.shownAll ds).map (·.length)).sum + 2 * (PyData.shownAll ds).length ≤ ds.length * (n + 2) := by
  induction ds with
  | nil => exact Nat.zero_le _
  | cons d ds ih =>
    have h1 := h d (List.mem_cons_self ..)
    have h2 := ih fun x hx => h x (List.mem_cons_of_mem _ hx)
    rw [PyData.shownAll]
    simp only [List.map_cons, List.sum_cons, List.length_cons, Nat.succ_mul]
    omega
theorem Sho.tup {L : Nat} (h : ∀ d ∈ ds, Sho k n d) (hl : ds.length ≤ L) : Sho (k + 1) (L * (n + 2) + 3) (.tuple ds) := by
  refine ⟨all_show fun d hd => (h d hd).sh, all_noD fun d hd => (h d hd).nd, Nat.succ_le_succ (all_depth fun d hd => (h d hd).dp), ?_, ?_⟩
  · have h1 := tupleText_len_le (PyData.shownAll ds)
    have h2 := all_len fun d hd => (h d hd).ln
    have h3 := Nat.mul_le_mul_right (n + 2) hl
    show (tupleText (PyData.shownAll ds)).length ≤ _
    omega
  · exact ok_app (ok_app (ok_ofS _) (ok_join (ok_ofS _) (all_shown fun d hd => (h d hd).ok))) (ok_ofS _)
theorem Sho.lst {L : Nat} (h : ∀ d ∈ ds, Sho k n d) (hl : ds.length ≤ L) : Sho (k + 1) (L * (n + 2) + 3) (.list ds) := by
  refine ⟨all_show fun d hd => (h d hd).sh, all_noD fun d hd => (h d hd).nd, Nat.succ_le_succ (all_depth fun d hd => (h d hd).dp), ?_, ?_⟩
  · have h1 := listText_len_le (PyData.shownAll ds)
    have h2 := all_len fun d hd => (h d hd).ln
    have h3 := Nat.mul_le_mul_right (n + 2) hl
    show (listText (PyData.shownAll ds)).length ≤ _
    omega
  · exact ok_app (ok_from (ok_ofS _) (all_shown fun d hd => (h d hd).ok)) (ok_ofS _)
theorem Sho.nat {j : Nat} (h : j < 10 ^ 40) : Sho k 41 (natD j) := Sho.int (by show (j : Int).natAbs < _; omega)
theorem Sho.nats {l : List Nat} {L : Nat} (h : ∀ j ∈ l, j < 10 ^ 40) (hl : l.length ≤ L) : Sho (k + 1) (L * 43 + 3) (natsD l) := Sho.tup (fun d hd => by obtain ⟨j, hj, rfl⟩ := List.mem_map.mp hd; exact Sho.nat (h j hj)) (by simpa using hl)
theorem Sho.can (h : Sho 60 10000000 d) : CanShow d := ⟨h.sh, h.nd, h.dp, Nat.le_trans h.ln (by rw [sizeLine_eq]; decide)⟩
theorem rp_of (h : Sho 60 10000000 d) : reprP d = some (.str d.shown) := by
  unfold reprP
  rw [if_pos h.can]
theorem ne_str {x : Str} (h : PyData.strOk x = true) : neP (.str x) (.str x) = some (.bool false) := by
  have e : SeqAt.shaped (.str x) = true := by
    unfold SeqAt.shaped
    rw [show PyData.canLay0 (.str x) = PyData.strOk x by simp [PyData.canLay0], h]
    rfl
  unfold neP
  rw [if_pos ⟨e, e⟩]
  simp [PyData.eqv]
theorem eq_str {x : Str} (h : PyData.strOk x = true) : eqP (.str x) (.str x) = some (.bool true) := by
  have e : SeqAt.shaped (.str x) = true := by
    unfold SeqAt.shaped
    rw [show PyData.canLay0 (.str x) = PyData.strOk x by simp [PyData.canLay0], h]
    rfl
  unfold eqP
  rw [if_pos ⟨e, e⟩]
  simp [PyData.eqv]
theorem ne_shown (h : Sho 60 10000000 d) : neP (.str d.shown) (.str d.shown) = some (.bool false) := ne_str h.ok
theorem eq_shown (h : Sho 60 10000000 d) : eqP (.str d.shown) (.str d.shown) = some (.bool true) := eq_str h.ok
/-! what may be compared -/
structure Lay (k : Nat) (d : PD) : Prop where
  cl : d.canLay0 = true
  dp : d.depth ≤ k
theorem all_lay (h : ∀ d ∈ ds, PyData.canLay0 d = true) : PyData.canLayAll0 ds = true := by
  induction ds with
  | nil => rfl
  | cons d ds ih => rw [PyData.canLayAll0, h d (List.mem_cons_self ..), ih fun x hx => h x (List.mem_cons_of_mem _ hx)]; rfl
theorem Lay.non : Lay k .none := ⟨rfl, Nat.zero_le _⟩
theorem Lay.bool {b : Bool} : Lay k (.bool b) := ⟨rfl, Nat.zero_le _⟩
theorem Lay.int {i : Int} : Lay k (.int i) := ⟨rfl, Nat.zero_le _⟩
theorem Lay.tup (h : ∀ d ∈ ds, Lay k d) : Lay (k + 1) (.tuple ds) := ⟨all_lay fun d hd => (h d hd).cl, Nat.succ_le_succ (all_depth fun d hd => (h d hd).dp)⟩
theorem Lay.lst (h : ∀ d ∈ ds, Lay k d) : Lay (k + 1) (.list ds) := ⟨all_lay fun d hd => (h d hd).cl, Nat.succ_le_succ (all_depth fun d hd => (h d hd).dp)⟩
theorem Lay.mono {k' : Nat} (h : Lay k d) (hk : k ≤ k') : Lay k' d := ⟨h.cl, Nat.le_trans h.dp hk⟩
theorem Lay.sh (h : Lay 60 d) : SeqAt.shaped d = true := by
  unfold SeqAt.shaped
  rw [h.cl, Bool.true_and, decide_eq_true_eq]
  exact Nat.le_trans h.dp (by decide)
theorem Lay.map {α : Type} {f : α → PD} {l : List α} (h : ∀ x, Lay k (f x)) : ∀ d ∈ l.map f, Lay k d := fun d hd => by obtain ⟨x, _, rfl⟩ := List.mem_map.mp hd; exact h x
theorem Lay.natsT {l : List Nat} : Lay (k + 1) (.tuple (l.map natD)) := Lay.tup (Lay.map fun _ => Lay.int)
theorem Lay.natsL {l : List Nat} : Lay (k + 1) (.list (l.map natD)) := Lay.lst (Lay.map fun _ => Lay.int)
theorem eqP_lay {e : PD} (h : Lay 60 d) (h' : Lay 60 e) : eqP d e = some (.bool (PyData.eqv d e)) := by unfold eqP; rw [if_pos ⟨h.sh, h'.sh⟩]
theorem neP_lay {e : PD} (h : Lay 60 d) (h' : Lay 60 e) : neP d e = some (.bool (!PyData.eqv d e)) := by unfold neP; rw [if_pos ⟨h.sh, h'.sh⟩]
theorem eqv_nats {l m : List Nat} : PyData.eqvAll (l.map natD) (m.map natD) = (l == m) := by
  induction l generalizing m with
  | nil => cases m <;> rfl
  | cons x xs ih => cases m with
    | nil => rfl
    | cons y ys =>
      have e : ((x : Int) == (y : Int)) = (x == y) := Bool.eq_iff_iff.mpr (by simp; omega)
      simp [PyData.eqvAll, PyData.eqv, ih, e]
theorem eqv_ints {l m : List Int} : PyData.eqvAll (l.map PyData.int) (m.map PyData.int) = (l == m) := by
  induction l generalizing m with
  | nil => cases m <;> rfl
  | cons x xs ih => cases m with
    | nil => rfl
    | cons y ys => simp [PyData.eqvAll, PyData.eqv, ih]
end
end Uv

namespace Uv
open PySem PySem.Spec PyProof.Rows L2
/-! ### things as data, and what is asked of them -/
structure Tie where
  g : Nat
  t : Nat
  r : Int
structure Seat where
  much : Int
  order : List Nat
structure Fair where
  ties : List Tie
  givers : List Seat
  takers : List Seat
def intsD (l : List Int) : PD := .tuple (l.map PyData.int)
def tieD (x : Tie) : PD := .tuple [natD x.g, natD x.t, .int x.r]
def seatD (x : Seat) : PD := .tuple [.int x.much, natsD x.order]
def fairD (F : Fair) : PD := .tuple [.tuple (F.ties.map tieD), .tuple (F.givers.map seatD), .tuple (F.takers.map seatD)]
section
variable {ρ : Env} {v : VE}
@[simp] theorem q_star {a : XE} {as : XA} : xStar a as v = (a v).bind fun x => (partsP x).bind fun xs => (as v).bind fun ys => some (xs ++ ys) := (rfl)
@[simp] theorem q_parts_t {ds : List PD} : partsP (.tuple ds) = some ds := (rfl)
@[simp] theorem q_parts_l {ds : List PD} : partsP (.list ds) = some ds := (rfl)
@[simp] theorem q_cat {xs ys : List PD} : catP (.list xs) (.list ys) = grd (xs.length + ys.length ≤ 100000) (some (.list (xs ++ ys))) := by unfold catP; simp only [grd_ite]
@[simp] theorem q_rep {xs : List PD} {j : Int} : repP (.list xs) (.int j) = grd (0 ≤ j ∧ j ≤ 100000 ∧ xs.length * j.toNat ≤ 100000) (some (.list (List.replicate j.toNat xs).flatten)) := by unfold repP; simp only [grd_ite]
@[simp] theorem q_mul_l {xs : List PD} {j : Int} : mulP (.list xs) (.int j) = grd (0 ≤ j ∧ j ≤ 100000 ∧ xs.length * j.toNat ≤ 100000) (some (.list (List.replicate j.toNat xs).flatten)) := by unfold mulP; simp only [grd_ite]
@[simp] theorem q_mulU_i {i j : Int} : mulU (.int i) (.int j) = grd (In64 i ∨ In64 j) (some (.int (i * j))) := by show mulP (.int i) (.int j) = _; exact q_mul
@[simp] theorem q_mulU_l {xs : List PD} {j : Int} : mulU (.list xs) (.int j) = grd (0 ≤ j ∧ j ≤ 100000 ∧ xs.length * j.toNat ≤ 100000) (some (.list (List.replicate j.toNat xs).flatten)) := by show mulP (.list xs) (.int j) = _; exact q_mul_l
@[simp] theorem q_mulU_t {xs : List PD} {j : Int} : mulU (.tuple xs) (.int j) = grd (xs ≠ [] ∧ 0 ≤ j ∧ j ≤ 1000 ∧ xs.length ≤ 1000) (some (.tuple (List.replicate j.toNat xs).flatten)) := by unfold mulU; simp only [grd_ite]
@[simp] theorem q_minU_l {ds : List PD} : minU [.list ds] = (unI ds).bind minL := (rfl)
@[simp] theorem q_minU_2 {i j : Int} : minU [.int i, .int j] = some (.int (if j < i then j else i)) := (rfl)
@[simp] theorem q_minU_3 {i j k : Int} : minU [.int i, .int j, .int k] = some (.int (if k < (if j < i then j else i) then k else (if j < i then j else i))) := (rfl)
@[simp] theorem q_maxP_2 {i j : Int} : maxP [.int i, .int j] = some (.int (if j > i then j else i)) := (rfl)
@[simp] theorem q_back_l {ds : List PD} : backP (.list ds) = some (.list ds.reverse) := (rfl)
@[simp] theorem q_back_t {ds : List PD} : backP (.tuple ds) = some (.tuple ds.reverse) := (rfl)
@[simp] theorem q_backL {ds : List PD} : backL (.list ds) = some (.list ds.reverse) := (rfl)
theorem q_rgP {n : Int} : rgP (.int n) = grd (-(2 ^ 62) ≤ n ∧ n ≤ 100000) (some ((List.range n.toNat).map natD)) := by unfold rgP; simp only [grd_ite]
structure Rg (n : Int) : Prop where
  lo : -(2 ^ 62) ≤ n
  hi : n ≤ 100000
theorem rg_nat {n : Nat} (h : n ≤ 100000) : Rg (n : Int) := ⟨by omega, by omega⟩
@[simp] theorem q_rgL {n : Int} : rgL (.int n) = grd (Rg n) (some (.list ((List.range n.toNat).map natD))) := by
  unfold rgL
  rw [q_rgP, grd_iff (c' := Rg n) ⟨fun h => ⟨h.1, h.2⟩, fun h => ⟨h.lo, h.hi⟩⟩]
  unfold grd
  split <;> rfl
@[simp] theorem q_rgT {n : Int} : rgT (.int n) = grd (Rg n) (some (.tuple ((List.range n.toNat).map natD))) := by
  unfold rgT
  rw [q_rgP, grd_iff (c' := Rg n) ⟨fun h => ⟨h.1, h.2⟩, fun h => ⟨h.lo, h.hi⟩⟩]
  unfold grd
  split <;> rfl
@[simp] theorem q_three {a b c : Cel} : three [a, b, c] = some (a, b, c) := (rfl)
@[simp] theorem q_sPar3 {i j k : Nat} {as : XWC} : sPar3 i j k as ρ = (as ρ).bind fun x => (three x.1).bind fun c => grd (i < x.2.length ∧ j < x.2.length ∧ k < x.2.length) (some (.nxt (((x.2.set i (toSl c.1)).set j (toSl c.2.1)).set k (toSl c.2.2)))) := by unfold sPar3; simp only [grd_ite]
@[simp] theorem q_sAug {i : Nat} {f : Int → Int → Int} {k a : XE} : sAug i f k a ρ = (ownAt ρ i).bind fun cs => ((k (vw ρ)).bind isI).bind fun k => (ixN cs.length k).bind fun n => ((datAt cs n).bind isI).bind fun x => ((a (vw ρ)).bind isI).bind fun y => some (.nxt (ρ.set i (.own (cs.set n (.dat (.int (f x y))))))) := (rfl)
@[simp] theorem q_wOO {f : PD → PD → Option PD} {a b : XW} : wOO f a b ρ = (a ρ).bind fun x => (b x.2).bind fun y => ((f x.1 y.1).bind asList).bind fun ds => some (dats ds, y.2) := (rfl)
@[simp] theorem q_xCut {a : XE} {lo hi : XO} : xCut a lo hi v = (a v).bind fun d => (lo v).bind fun l => (hi v).bind fun h => cutP d l h := (rfl)
@[simp] theorem q_cutP_l {ds : List PD} {l h : Option Int} : cutP (.list ds) l h = some (.list (cutD ds l h)) := (rfl)
@[simp] theorem q_cutP_s {ds : List PD} {l h : Option Int} : cutP (scrD ds) l h = some (.list (cutD ds l h)) := (rfl)
end
section
variable {l : List Nat} {m : List Int} {W : Web} {F : Fair} {x : Road} {t : Tie} {s : Seat} {i : Int} {k : Nat}
/-! tuples of numbers -/
@[simp] theorem n_seq : seqP (natsD l) = some (l.map natD) := (rfl)
@[simp] theorem n_len : lenP (natsD l) = some (natD l.length) := by unfold natsD; simp
@[simp] theorem n_ix : ixP (natsD l) (.int i) = atI (l.map natD) i := (rfl)
@[simp] theorem n_tup : tupP (natsD l) = some (natsD l) := (rfl)
@[simp] theorem n_lst : listP (natsD l) = some (.list (l.map natD)) := (rfl)
@[simp] theorem n_parts : partsP (natsD l) = some (l.map natD) := (rfl)
@[simp] theorem n_full : full (natsD l) = false := (rfl)
@[simp] theorem n_isT : isTy .tuple (natsD l) = true := (rfl)
@[simp] theorem n_enum : enumP [natsD l] = some (pairsD (l.map natD)) := (rfl)
@[simp] theorem n_none : isNone (natsD l) = false := (rfl)
@[simp] theorem n_addR {ds : List PD} : addP (.tuple ds) (natsD l) = grd (ds.length + l.length ≤ 100000) (some (.tuple (ds ++ l.map natD))) := by
  unfold natsD
  rw [q_add_t, List.length_map]
theorem flats_of {ds : List PD} (h : ∀ d ∈ ds, flat d = true) : flats ds = true := by
  induction ds with
  | nil => rfl
  | cons d ds ih => rw [q_flats_cons, h d (List.mem_cons_self ..), ih fun x hx => h x (List.mem_cons_of_mem _ hx)]; rfl
theorem flats_map {α : Type} {f : α → PD} {l : List α} (h : ∀ x, flat (f x) = true) : flats (l.map f) = true := flats_of fun d hd => by obtain ⟨x, _, rfl⟩ := List.mem_map.mp hd; exact h x
@[simp] theorem n_flat : flat (natsD l) = true := by unfold natsD; rw [q_flat_t]; exact flats_map fun _ => q_flat_i
@[simp] theorem n_flats : flats (l.map natD) = true := flats_map fun _ => q_flat_i
@[simp] theorem i_flats : flats (m.map PyData.int) = true := flats_map fun _ => q_flat_i
@[simp] theorem i_seq : seqP (intsD m) = some (m.map PyData.int) := (rfl)
@[simp] theorem i_len : lenP (intsD m) = some (natD m.length) := by unfold intsD; simp
@[simp] theorem i_ix : ixP (intsD m) (.int i) = atI (m.map PyData.int) i := (rfl)
@[simp] theorem i_tup : tupP (intsD m) = some (intsD m) := (rfl)
@[simp] theorem i_lst : listP (intsD m) = some (.list (m.map PyData.int)) := (rfl)
@[simp] theorem i_parts : partsP (intsD m) = some (m.map PyData.int) := (rfl)
@[simp] theorem i_full : full (intsD m) = false := (rfl)
@[simp] theorem i_isT : isTy .tuple (intsD m) = true := (rfl)
@[simp] theorem i_enum : enumP [intsD m] = some (pairsD (m.map PyData.int)) := (rfl)
@[simp] theorem i_none : isNone (intsD m) = false := (rfl)
@[simp] theorem i_flat : flat (intsD m) = true := by unfold intsD; rw [q_flat_t]; exact i_flats
theorem memInt_nat {l : List Nat} {k : Nat} : ((k : Int) ∈ l.map fun (n : Nat) => (n : Int)) ↔ k ∈ l := by
  constructor
  · intro h
    obtain ⟨j, hj, e⟩ := List.mem_map.mp h
    have e : (j : Int) = (k : Int) := e
    have : j = k := by omega
    subst this
    exact hj
  · exact fun h => List.mem_map.mpr ⟨k, h, rfl⟩
theorem idx_nat {l : List Nat} {k : Nat} : (l.map fun (n : Nat) => (n : Int)).idxOf (k : Int) = l.idxOf k := by
  induction l with
  | nil => rfl
  | cons x xs ih =>
    rw [List.map_cons, List.idxOf_cons, List.idxOf_cons, ih]
    have e : ((x : Int) == (k : Int)) = (x == k) := Bool.eq_iff_iff.mpr (by simp; omega)
    rw [e]
theorem n_idx (h : k ∈ l) : idxP (natsD l) (natD k) = some (natD (l.idxOf k)) := by
  unfold natsD idxP
  simp only [unI_nats, Option.bind_some]
  rw [if_pos (memInt_nat.mpr h), idx_nat]
theorem n_idxL (h : k ∈ l) : idxP (.list (l.map natD)) (natD k) = some (natD (l.idxOf k)) := by
  have hf : (l.map natD).findIdx? (fun z => PyData.eqv z (natD k)) = some (l.idxOf k) := by
    induction l with
    | nil => exact nomatch h
    | cons x xs ih =>
      rw [List.map_cons, List.findIdx?_cons, List.idxOf_cons]
      have e : PyData.eqv (natD x) (natD k) = (x == k) := by
        show ((x : Int) == (k : Int)) = _
        exact Bool.eq_iff_iff.mpr (by simp; omega)
      rw [e]
      by_cases c : x = k
      · simp [c]
      · have hk : k ∈ xs := (List.mem_cons.mp h).resolve_left fun z => c z.symm
        have e2 : (x == k) = false := by simpa using c
        rw [e2]
        simp [ih hk]
  unfold idxP
  dsimp only
  rw [if_pos ⟨(Lay.natsL (k := 59)).sh, (Lay.int (k := 60)).sh⟩, hf]
/-! webs -/
@[simp] theorem w_seq : seqP (webD W) = some [.tuple (W.roads.map roadD), .tuple (W.gives.map natsD), .tuple (W.takes.map natsD)] := (rfl)
@[simp] theorem w_0 : ixP (webD W) (.int 0) = some (.tuple (W.roads.map roadD)) := (rfl)
@[simp] theorem w_1 : ixP (webD W) (.int 1) = some (.tuple (W.gives.map natsD)) := (rfl)
@[simp] theorem w_2 : ixP (webD W) (.int 2) = some (.tuple (W.takes.map natsD)) := (rfl)
@[simp] theorem w_full : full (webD W) = false := (rfl)
@[simp] theorem w_none : isNone (webD W) = false := (rfl)
@[simp] theorem r_seq : seqP (roadD x) = some [endD x.b, endD x.e, .int x.r] := (rfl)
@[simp] theorem r_0 : ixP (roadD x) (.int 0) = some (endD x.b) := (rfl)
@[simp] theorem r_1 : ixP (roadD x) (.int 1) = some (endD x.e) := (rfl)
@[simp] theorem r_2 : ixP (roadD x) (.int 2) = some (.int x.r) := (rfl)
@[simp] theorem e_none {o : Option Nat} : isNone (endD o) = o.isNone := by cases o <;> rfl
@[simp] theorem e_flat {o : Option Nat} : flat (endD o) = true := by cases o <;> simp [endD]
@[simp] theorem r_flat : flat (roadD x) = true := by simp [roadD]
theorem eq_end {o : Option Nat} {h : Nat} : eqP (endD o) (natD h) = some (.bool (o == some h)) := by
  cases o with
  | none => rfl
  | some n => simp [endD]; exact Bool.eq_iff_iff.mpr (by simp; omega)
/-! fairs -/
@[simp] theorem f_seq : seqP (fairD F) = some [.tuple (F.ties.map tieD), .tuple (F.givers.map seatD), .tuple (F.takers.map seatD)] := (rfl)
@[simp] theorem f_0 : ixP (fairD F) (.int 0) = some (.tuple (F.ties.map tieD)) := (rfl)
@[simp] theorem f_1 : ixP (fairD F) (.int 1) = some (.tuple (F.givers.map seatD)) := (rfl)
@[simp] theorem f_2 : ixP (fairD F) (.int 2) = some (.tuple (F.takers.map seatD)) := (rfl)
@[simp] theorem f_full : full (fairD F) = false := (rfl)
@[simp] theorem f_isT : isTy .tuple (fairD F) = true := (rfl)
@[simp] theorem f_len : lenP (fairD F) = some (natD 3) := (rfl)
@[simp] theorem t_seq : seqP (tieD t) = some [natD t.g, natD t.t, .int t.r] := (rfl)
@[simp] theorem t_0 : ixP (tieD t) (.int 0) = some (natD t.g) := (rfl)
@[simp] theorem t_1 : ixP (tieD t) (.int 1) = some (natD t.t) := (rfl)
@[simp] theorem t_2 : ixP (tieD t) (.int 2) = some (.int t.r) := (rfl)
@[simp] theorem t_full : full (tieD t) = false := (rfl)
@[simp] theorem t_isT : isTy .tuple (tieD t) = true := (rfl)
@[simp] theorem t_len : lenP (tieD t) = some (natD 3) := (rfl)
@[simp] theorem t_flat : flat (tieD t) = true := by simp [tieD]
@[simp] theorem s_seq : seqP (seatD s) = some [.int s.much, natsD s.order] := (rfl)
@[simp] theorem s_0 : ixP (seatD s) (.int 0) = some (.int s.much) := (rfl)
@[simp] theorem s_1 : ixP (seatD s) (.int 1) = some (natsD s.order) := (rfl)
@[simp] theorem s_full : full (seatD s) = false := (rfl)
@[simp] theorem s_isT : isTy .tuple (seatD s) = true := (rfl)
@[simp] theorem s_len : lenP (seatD s) = some (natD 2) := (rfl)
@[simp] theorem s_flat : flat (seatD s) = true := by simp [seatD]
end
/-! truth of types -/
section
variable {i : Int} {b : Bool} {x : Str} {ds : List PD}
@[simp] theorem ty_ii : isTy .int (.int i) = true := (rfl)
@[simp] theorem ty_bi : isTy .bool (.int i) = false := (rfl)
@[simp] theorem ty_ti : isTy .tuple (.int i) = false := (rfl)
@[simp] theorem ty_ib : isTy .int (.bool b) = true := (rfl)
@[simp] theorem ty_bb : isTy .bool (.bool b) = true := (rfl)
@[simp] theorem ty_tt : isTy .tuple (.tuple ds) = true := (rfl)
@[simp] theorem ty_it : isTy .int (.tuple ds) = false := (rfl)
@[simp] theorem ty_bt : isTy .bool (.tuple ds) = false := (rfl)
@[simp] theorem ty_st : isTy .str (.tuple ds) = false := (rfl)
@[simp] theorem ty_in : isTy .int .none = false := (rfl)
@[simp] theorem ty_bn : isTy .bool .none = false := (rfl)
@[simp] theorem ty_tn : isTy .tuple .none = false := (rfl)
@[simp] theorem ty_sn : isTy .str .none = false := (rfl)
@[simp] theorem ty_si : isTy .str (.int i) = false := (rfl)
@[simp] theorem ty_sb : isTy .str (.bool b) = false := (rfl)
@[simp] theorem ty_tb : isTy .tuple (.bool b) = false := (rfl)
/-! sums, all, any over lists of a shape -/
theorem q_sum {α : Type} {f : α → Int} {l : List α} : sumP (.list (l.map fun x => .int (f x))) = some (.int (l.map f).sum) := by
  unfold sumP intsP
  simp only [unI_of, Option.bind_some]
theorem q_sumI {l : List Int} : sumP (.list (l.map PyData.int)) = some (.int l.sum) := by
  unfold sumP intsP
  simp only [@unI_map kk0, Option.bind_some]
theorem q_all {α : Type} {f : α → Bool} {l : List α} : allP (.list (l.map fun x => .bool (f x))) = some (.bool (l.all f)) := by
  unfold allP boolsP
  simp only [unB_of, Option.bind_some, List.all_map]
  rfl
theorem q_any {α : Type} {f : α → Bool} {l : List α} : anyP (.list (l.map fun x => .bool (f x))) = some (.bool (l.any f)) := by
  unfold anyP boolsP
  simp only [unB_of, Option.bind_some, List.any_map]
  rfl
@[simp] theorem all_tt {α : Type} {l : List α} : (l.all fun _ => true) = true := List.all_eq_true.mpr fun _ _ => rfl
theorem q_sort {l : List Nat} : sortP (natsD l) = some (.list ((sortI (l.map fun (n : Nat) => (n : Int))).map PyData.int)) := by
  unfold natsD sortP
  simp only [unI_nats, Option.bind_some]
end
end Uv

namespace Uv
open PySem PySem.Spec PyProof.Rows L2
variable {ρ : Env}
@[simp] theorem q_mk_dic {l : List (Int × PD)} : (Sl.dic l).mk = none := (rfl)
@[simp] theorem q_vw_dic {l : List (Int × PD)} : (Sl.dic l).vw = none := (rfl)
@[simp] theorem q_dicAt0 {l : List (Int × PD)} {r : Env} : dicAt (.dic l :: r) 0 = some l := (rfl)
@[simp] theorem q_dicAtS {s : Sl} {r : Env} {i : Nat} : dicAt (s :: r) (i + 1) = dicAt r i := (rfl)
@[simp] theorem q_sDNew {i : Nat} : sDNew i ρ = grd (i < ρ.length) (some (.nxt (ρ.set i (.dic [])))) := by
  unfold sDNew
  by_cases c : i < ρ.length
  · rw [if_pos c]; simp [grd, c]
  · rw [if_neg c]; simp [grd, c]
@[simp] theorem q_wDin {i : Nat} {k : XE} : wDin i k ρ = ((k (mk ρ)).bind isI).bind fun n => (dicAt ρ i).bind fun l => some (.bool (hasD l n), ρ) := (rfl)
@[simp] theorem q_wDnot {i : Nat} {k : XE} : wDnot i k ρ = ((k (mk ρ)).bind isI).bind fun n => (dicAt ρ i).bind fun l => some (.bool (!hasD l n), ρ) := (rfl)
@[simp] theorem q_wDget {i : Nat} {k : XE} : wDget i k ρ = ((k (mk ρ)).bind isI).bind fun n => (dicAt ρ i).bind fun l => (getD l n).bind fun d => some (d, ρ) := (rfl)
@[simp] theorem q_sDput {i : Nat} {k : XE} {a : XW} : sDput i k a ρ = (a ρ).bind fun x => ((k (mk x.2)).bind isI).bind fun n => (dicAt x.2 i).bind fun l => grd (l.length < 100000) (some (.nxt (x.2.set i (.dic (putD l n x.1))))) := by
  unfold sDput
  congr 1
  funext x
  congr 1
  funext n
  congr 1
  funext l
  by_cases c : l.length < 100000
  · rw [if_pos c]; simp [grd, c]
  · rw [if_neg c]; simp [grd, c]
end Uv

namespace Fn
open PySem PySem.Spec PyProof.Rows L2 Uv
-- _law_deck_h: 0 _law_script, 1 _law_cells, 2 _law_cell
@[irreducible] def X__law_deck_h : XS :=
    sSeq (sAsg (gName' 1) (wM (xLc (xiE (xVar 0)) (gvName 2) xYes (xCB (on1 absP) (xCons (xVar 2) xNil)) [2])))
    (sRetO (wOL (wcSub (wOM (xLc (xiE (xVar 1)) (gvName 2) (xB (xOp geP (xVar 2) (xOp powP (xC (.int 10)) (xC (.int 18))))) (xVar 2) [2])) (wcSub (wOM (xOp catP (xVar 1) (xLst (xCons (xOp addP (xCB (on1 lenP) (xCons (xVar 1) xNil)) (xC (.int 5))) xNil)))) (wcDat (wM (xC (.int 0))) wcNil)))))
@[irreducible] def F__law_deck_h : List PD → Option (List Cel) := runD 1 2 X__law_deck_h
-- _law_next: 0 _law_deck_here, 1 _law_many, 2 _law_rest, 3 _law_cell, 4 _law_mixed
@[irreducible] def X__law_next_b1 : XS :=
    sSeq (sAsg (gName' 2) (wV (xOp ixP (xOp ixP (xVar 0) (xC (.int 0))) (xC (.int 0)))))
    (sSeq (sIf (wMT (xB (xOp gtU (xVar 2) (xC (.int 0))))) (sSeq (sSetS 0 (xC (.int 0)) (xC (.int 0)) (wM (xOp divP (xVar 2) (xVar 1))))
    (sRet (wM (xOp modP (xVar 2) (xVar 1))))) sNext)
    (sPopS 0 (xC (.int 0)) (xC (.int 0))))
@[irreducible] def X__law_next : XS :=
    sSeq (sWhile fuel (wVT (xB (xOp neP (xOp ixP (xVar 0) (xC (.int 0))) (xLst xNil)))) X__law_next_b1)
    (sSeq (sSet 0 (xC (.int 2)) (wV (xOp addP (xOp ixP (xVar 0) (xC (.int 2))) (xC (.int 1)))))
    (sSeq (sAsg (gName' 3) (wV (xOp modP (xOp ixP (xOp ixP (xVar 0) (xC (.int 1))) (xOp modP (xOp ixP (xVar 0) (xC (.int 2))) (xCB (on1 lenP) (xCons (xOp ixP (xVar 0) (xC (.int 1))) xNil)))) (xC (.int 2147483647)))))
    (sSeq (sAsg (gName' 4) (wV (xOp addP (xOp addP (xOp mulU (xVar 3) (xOp addP (xC (.int 48271)) (xOp mulU (xC (.int 40692)) (xOp ixP (xVar 0) (xC (.int 2)))))) (xOp mulU (xOp mulU (xC (.int 69621)) (xOp ixP (xVar 0) (xC (.int 2)))) (xOp ixP (xVar 0) (xC (.int 2))))) (xC (.int 13)))))
    (sSeq (sAsg (gName' 4) (wM (xOp modP (xVar 4) (xC (.int 2147483629)))))
    (sRet (wM (xOp modP (xOp divP (xOp modP (xOp mulU (xVar 4) (xVar 4)) (xC (.int 2147483587))) (xC (.int 16))) (xVar 1))))))))
@[irreducible] def F__law_next : List Cel → List PD → Option (PD × List Cel) := runW 1 3 X__law_next
-- _law_one: 0 _law_deck_here, 1 _law_some
@[irreducible] def X__law_one : XS :=
    sRet (wOp ixP (wM (xVar 1)) (wCallK 0 F__law_next (wCons (wM (xCB (on1 lenP) (xCons (xVar 1) xNil))) wNil)))
@[irreducible] def F__law_one : List Cel → List PD → Option (PD × List Cel) := runW 1 0 X__law_one
-- _law_round_b: 0 _law_deck_here, 1 _law_web_here*, 2 _law_bears*, 3 _law_lit, 4 _law_begins, 5 _law_row, 6 _law_seen, 7 _law_house*, 8 _law_further, 9 _law_end, 10 _law_k
@[irreducible] def X__law_round_b_b1 : XS :=
    sSeq (sAsg (gName' 7) (wV (xOp ixP (xOp ixP (xOp ixP (xVar 1) (xC (.int 0))) (xOp ixP (xVar 5) (xUn negP (xC (.int 1))))) (xC (.int 1)))))
    (sSeq (sApp 6 (wM (xVar 7)))
    (sSeq (sAsg (gName' 8) (wM (xLc (xiE (xVar 3)) (gvName 10) (xB (xOp eqP (xOp ixP (xOp ixP (xOp ixP (xVar 1) (xC (.int 0))) (xVar 10)) (xC (.int 0))) (xVar 7))) (xVar 10) [10])))
    (sSeq (sIf (wMT (xB (xOp eqP (xVar 8) (xLst xNil)))) (sFz 6 (sFz 5 (sRetO (wOL wcNil)))) sNext)
    (sApp 5 (wCallK 0 F__law_one (wCons (wM (xVar 8)) wNil))))))
@[irreducible] def X__law_round_b : XS :=
    sSeq (sAsg (gName' 3) (wM (xLc (xiA rngP (xCons (xCB (on1 lenP) (xCons (xOp ixP (xVar 1) (xC (.int 0))) xNil)) xNil)) (gvName 10) (xB (xOp ltP (xOp ixP (xVar 2) (xVar 10)) (xOp ixP (xOp ixP (xOp ixP (xVar 1) (xC (.int 0))) (xVar 10)) (xC (.int 2))))) (xVar 10) [10])))
    (sSeq (sAsg (gName' 4) (wM (xLc (xiE (xVar 3)) (gvName 10) (xB (xOp isU (xOp ixP (xOp ixP (xOp ixP (xVar 1) (xC (.int 0))) (xVar 10)) (xC (.int 0))) (xC .none))) (xVar 10) [10])))
    (sSeq (sIf (wTOr (wMT (xB (xOp eqP (xVar 4) (xLst xNil)))) (wB (wOp eqP (wCallK 0 F__law_next (wCons (wM (xC (.int 3))) wNil)) (wM (xC (.int 0)))))) (sAsg (gName' 4) (wM (xVar 3))) sNext)
    (sSeq (sIf (wMT (xB (xOp eqP (xVar 4) (xLst xNil)))) (sRetO (wOL wcNil)) sNext)
    (sSeq (sOwn 5 (wOL (wcDat (wCallK 0 F__law_one (wCons (wM (xVar 4)) wNil)) wcNil)))
    (sSeq (sOwn 6 (wOL (wcDat (wV (xOp ixP (xOp ixP (xOp ixP (xVar 1) (xC (.int 0))) (xOp ixP (xVar 5) (xC (.int 0)))) (xC (.int 0)))) wcNil)))
    (sSeq (sWhile fuel (wVT (xB (xOp notinP (xOp ixP (xOp ixP (xOp ixP (xVar 1) (xC (.int 0))) (xOp ixP (xVar 5) (xUn negP (xC (.int 1))))) (xC (.int 1))) (xOp addP (xVar 6) (xLst (xCons (xC .none) xNil)))))) X__law_round_b_b1)
    (sFz 6 (sFz 5 (sSeq (sAsg (gName' 9) (wM (xOp ixP (xOp ixP (xOp ixP (xVar 1) (xC (.int 0))) (xOp ixP (xVar 5) (xUn negP (xC (.int 1))))) (xC (.int 1)))))
    (sSeq (sIf (wMT (xTAnd (xB (xOp isU (xVar 9) (xC .none))) (xB (xOp isntU (xOp ixP (xOp ixP (xOp ixP (xVar 1) (xC (.int 0))) (xOp ixP (xVar 5) (xC (.int 0)))) (xC (.int 0))) (xC .none))))) (sRetO (wOL wcNil)) sNext)
    (sRetO (wOM (xCut (xVar 5) (xPart (xOp ixP (xLst (xCons (xIdx (xVar 6) (xVar 9)) (xCons (xC (.int 0)) xNil))) (xCB (on1 toIntP) (xCons (xOp isU (xVar 9) (xC .none)) xNil)))) xNoPart)))))))))))))
@[irreducible] def F__law_round_b : List Cel → List PD → Option (List Cel × List Cel) := runV 2 8 X__law_round_b
-- _law_stream_f: 0 _law_deck_here, 1 _law_web_here*, 2 _law_several, 3 _law_bears*, 4 _law_turn, 5 _law_row, 6 _law_most, 7 _law_many, 8 _law_k
@[irreducible] def X__law_stream_f_b1 : XS :=
    sSet 3 (xVar 8) (wV (xOp addP (xOp ixP (xVar 3) (xVar 8)) (xVar 7)))
@[irreducible] def X__law_stream_f_b2 : XS :=
    sSeq (sOwn 5 (wCallV 0 3 F__law_round_b (wM (xVar 1))))
    (sFz 5 (sIf (wMT (xB (xOp neP (xVar 5) (xLst xNil)))) (sSeq (sAsg (gName' 6) (wV (xCB minU (xCons (xLc (xiE (xVar 5)) (gvName 8) xYes (xOp subP (xOp ixP (xOp ixP (xOp ixP (xVar 1) (xC (.int 0))) (xVar 8)) (xC (.int 2))) (xOp ixP (xVar 3) (xVar 8))) [8]) xNil))))
    (sSeq (sAsg (gName' 7) (wCallK 0 F__law_one (wCons (wLst (wCons (wM (xC (.int 1))) (wCons (wM (xVar 6)) (wCons (wOp addP (wM (xC (.int 1))) (wCallK 0 F__law_next (wCons (wM (xVar 6)) wNil))) wNil)))) wNil)))
    (sFor (wiE (wM (xVar 5))) (gName' 8) X__law_stream_f_b1))) sNext))
@[irreducible] def X__law_stream_f : XS :=
    sSeq (sOwn 3 (wOM (xOp repP (xLst (xCons (xC (.int 0)) xNil)) (xCB (on1 lenP) (xCons (xOp ixP (xVar 1) (xC (.int 0))) xNil)))))
    (sSeq (sFor (wiA rngP (wCons (wM (xVar 2)) wNil)) (gName' 4) X__law_stream_f_b2)
    (sFz 3 (sRet (wM (xCB (on1 tupP) (xCons (xVar 3) xNil))))))
@[irreducible] def F__law_stream_f : List Cel → List PD → Option (PD × List Cel) := runW 2 6 X__law_stream_f
-- _law_order: 0 _law_deck_here, 1 _law_numbers, 2 _law_found, 3 _law_number
@[irreducible] def X__law_order_b1 : XS :=
    sIns 2 (wCons (wCallK 0 F__law_next (wCons (wV (xOp addP (xCB (on1 lenP) (xCons (xVar 2) xNil)) (xC (.int 1)))) wNil)) (wCons (wM (xVar 3)) wNil))
@[irreducible] def X__law_order : XS :=
    sSeq (sOwn 2 (wOL wcNil))
    (sSeq (sFor (wiE (wM (xVar 1))) (gName' 3) X__law_order_b1)
    (sFz 2 (sRet (wM (xCB (on1 tupP) (xCons (xVar 2) xNil))))))
@[irreducible] def F__law_order : List Cel → List PD → Option (PD × List Cel) := runW 1 2 X__law_order
-- _law_room: 0 _law_deck_here, 1 _law_far, 2 _law_small, 3 _law_great
@[irreducible] def X__law_room : XS :=
    sSeq (sAsg (gName' 2) (wCallK 0 F__law_one (wCons (wM (xLst (xCons (xC (.int 0)) (xCons (xC (.int 1)) (xCons (xC (.int 1)) (xCons (xC (.int 2)) (xCons (xC (.int 3)) (xCons (xC (.int 5)) xNil)))))))) wNil)))
    (sSeq (sAsg (gName' 3) (wCallK 0 F__law_one (wCons (wLst (wCons (wM (xC (.int 1))) (wCons (wM (xC (.int 2))) (wCons (wM (xOp powP (xC (.int 10)) (xC (.int 12)))) (wCons (wOp subP (wM (xOp powP (xC (.int 10)) (xC (.int 12)))) (wCallK 0 F__law_next (wCons (wM (xC (.int 3))) wNil))) (wCons (wCallK 0 F__law_next (wCons (wM (xOp powP (xC (.int 10)) (xC (.int 12)))) wNil)) wNil)))))) wNil)))
    (sRet (wM (xOp ixP (xLst (xCons (xVar 2) (xCons (xVar 3) xNil))) (xCB (on1 toIntP) (xCons (xVar 1) xNil))))))
@[irreducible] def F__law_room : List Cel → List PD → Option (PD × List Cel) := runW 1 2 X__law_room
-- _law_road: 0 _law_deck_here, 1 _law_houses, 2 _law_far, 3 _law_one_here, 4 _law_other, 5 _law_begin, 6 _law_end, 7 _law_number
@[irreducible] def X__law_road : XS :=
    sSeq (sAsg (gName' 3) (wCallK 0 F__law_next (wCons (wM (xOp addP (xVar 1) (xC (.int 1)))) wNil)))
    (sSeq (sAsg (gName' 4) (wOp modP (wOp addP (wM (xOp addP (xVar 3) (xC (.int 1)))) (wCallK 0 F__law_next (wCons (wM (xVar 1)) wNil))) (wM (xOp addP (xVar 1) (xC (.int 1))))))
    (sSeq (sAsg (gTup' 2 (gCons' (gName' 5) (gCons' (gName' 6) gNil'))) (wM (xLc (xiE (xTup (xCons (xVar 3) (xCons (xVar 4) xNil)))) (gvName 7) xYes (xOp ixP (xLst (xCons (xC .none) (xCons (xOp subP (xVar 7) (xC (.int 1))) xNil))) (xCB (on1 toIntP) (xCons (xOp gtU (xVar 7) (xC (.int 0))) xNil))) [7])))
    (sRet (wTup (wCons (wM (xVar 5)) (wCons (wM (xVar 6)) (wCons (wCallK 0 F__law_room (wCons (wM (xVar 2)) wNil)) wNil)))))))
@[irreducible] def F__law_road : List Cel → List PD → Option (PD × List Cel) := runW 2 5 X__law_road
-- _law_web: 0 _law_deck_here*, 1 _law_houses, 2 _law_roads, 3 _law_far*, 4 _law_count*, 5 _law_found*, 6 _law_orders, 7 _law_side*, 8 _law_rows, 9 _law_house*, 10 _law_k
@[irreducible] def X__law_web_b1 : XS :=
    sApp 8 (wCallK 0 F__law_order (wCons (wM (xLc (xiA rngP (xCons (xCB (on1 lenP) (xCons (xVar 5) xNil)) xNil)) (gvName 10) (xB (xOp eqP (xOp ixP (xOp ixP (xVar 5) (xVar 10)) (xVar 7)) (xVar 9))) (xVar 10) [10])) wNil))
@[irreducible] def X__law_web_b2 : XS :=
    sSeq (sOwn 8 (wOL wcNil))
    (sSeq (sFor (wiA rngP (wCons (wM (xVar 4)) wNil)) (gName' 9) X__law_web_b1)
    (sFz 8 (sApp 6 (wM (xCB (on1 tupP) (xCons (xVar 8) xNil))))))
@[irreducible] def X__law_web : XS :=
    sSeq (sAsg (gName' 4) (wOp addP (wM (xC (.int 1))) (wCallK 0 F__law_next (wCons (wM (xVar 1)) wNil))))
    (sSeq (sAsg (gName' 5) (wFz (wLc (wiA rngP (wCons (wOp addP (wM (xC (.int 1))) (wCallK 0 F__law_next (wCons (wM (xVar 2)) wNil))) wNil)) (gName' 10) (wMT xYes) (wCallK 0 F__law_road (wCons (wM (xVar 4)) (wCons (wM (xVar 3)) wNil))) [10])))
    (sSeq (sOwn 6 (wOL wcNil))
    (sSeq (sFor (wiE (wM (xTup (xCons (xC (.int 0)) (xCons (xC (.int 1)) xNil))))) (gName' 7) X__law_web_b2)
    (sFz 6 (sRet (wM (xTup (xCons (xCB (on1 tupP) (xCons (xVar 5) xNil)) (xCons (xOp ixP (xVar 6) (xC (.int 0))) (xCons (xOp ixP (xVar 6) (xC (.int 1))) xNil))))))))))
@[irreducible] def F__law_web : List Cel → List PD → Option (PD × List Cel) := runW 3 7 X__law_web
-- in_doors: 0 web, 1 number, 2 road
@[irreducible] def X_in_doors : XS :=
    sRet (wM (xCB (on1 tupP) (xCons (xLc (xiA enumP (xCons (xOp ixP (xVar 0) (xC (.int 0))) xNil)) (gvTup 2 (gvCons (gvName 1) (gvCons (gvName 2) gvNil))) (xB (xOp isU (xOp ixP (xVar 2) (xC (.int 0))) (xC .none))) (xVar 1) [1, 2]) xNil)))
@[irreducible] def F_in_doors : List PD → Option PD := runP 1 2 X_in_doors
-- first_bearing: 0 web, 1 left*, 2 bearing, 3 road
@[irreducible] def X_first_bearing : XS :=
    sSeq (sAsg (gName' 2) (wM (xLc (xiE (xOp addP (xUn listP (xCB F_in_doors (xCons (xVar 0) xNil))) (xUn rgL (xCB (on1 lenP) (xCons (xVar 1) xNil))))) (gvName 3) (xB (xOp gtU (xOp ixP (xVar 1) (xVar 3)) (xC (.int 0)))) (xVar 3) [3])))
    (sRet (wM (xIf (xB (xOp gtU (xCB (on1 lenP) (xCons (xVar 2) xNil)) (xC (.int 0)))) (xOp ixP (xVar 2) (xC (.int 0))) (xC .none))))
@[irreducible] def F_first_bearing : List PD → Option PD := runP 2 2 X_first_bearing
-- from_least: 0 ring, 1 at
@[irreducible] def X_from_least : XS :=
    sSeq (sAsg (gName' 1) (wM (xIdx (xVar 0) (xCB minU (xCons (xVar 0) xNil)))))
    (sRet (wM (xCB (on1 tupP) (xCons (xOp addP (xSl (xVar 0) (xPart (xVar 1)) xNoPart) (xSl (xVar 0) xNoPart (xPart (xVar 1)))) xNil))))
@[irreducible] def F_from_least : List PD → Option PD := runP 1 1 X_from_least
-- way_or_ring: 0 web, 1 left*, 2 first, 3 roads*, 4 gives, 5 takes, 6 gone, 7 end, 8 begins, 9 road
@[irreducible] def X_way_or_ring_b1 : XS :=
    sSeq (sOwn 8 (wOV (xLc (xiE (xVar 6)) (gvName 9) xYes (xOp ixP (xOp ixP (xVar 3) (xVar 9)) (xC (.int 0))) [9])))
    (sFz 8 (sSeq (sIf (wMT (xB (xOp inP (xVar 7) (xVar 8)))) (sFz 6 (sRet (wM (xCB F_from_least (xCons (xSl (xVar 6) (xPart (xIdx (xVar 8) (xVar 7))) xNoPart) xNil))))) sNext)
    (sSeq (sApp 6 (wM (xOp ixP (xLc (xiE (xOp ixP (xVar 4) (xVar 7))) (gvName 9) (xB (xOp gtU (xOp ixP (xVar 1) (xVar 9)) (xC (.int 0)))) (xVar 9) [9]) (xC (.int 0)))))
    (sAsg (gName' 7) (wV (xOp ixP (xOp ixP (xVar 3) (xOp ixP (xVar 6) (xUn negP (xC (.int 1))))) (xC (.int 1))))))))
@[irreducible] def X_way_or_ring : XS :=
    sSeq (sAsg (gTup' 3 (gCons' (gName' 3) (gCons' (gName' 4) (gCons' (gName' 5) gNil')))) (wM (xVar 0)))
    (sSeq (sOwn 6 (wOL (wcDat (wM (xVar 2)) wcNil)))
    (sSeq (sAsg (gName' 7) (wM (xOp ixP (xOp ixP (xVar 3) (xVar 2)) (xC (.int 1)))))
    (sSeq (sWhile fuel (wMT (xB (xOp isntU (xVar 7) (xC .none)))) X_way_or_ring_b1)
    (sFz 6 (sRet (wM (xCB (on1 tupP) (xCons (xVar 6) xNil))))))))
@[irreducible] def F_way_or_ring : List PD → Option PD := runP 3 7 X_way_or_ring
-- bundle: 0 web, 1 stream, 2 left*, 3 rows, 4 first, 5 roads, 6 many, 7 road
@[irreducible] def X_bundle_b1 : XS :=
    sAug 2 (fun i j => i - j) (xVar 7) (xVar 6)
@[irreducible] def X_bundle_b2 : XS :=
    sSeq (sAsg (gName' 5) (wV (xCB F_way_or_ring (xCons (xVar 0) (xCons (xVar 2) (xCons (xVar 4) xNil))))))
    (sSeq (sAsg (gName' 6) (wV (xCB minU (xCons (xLc (xiE (xVar 5)) (gvName 7) xYes (xOp ixP (xVar 2) (xVar 7)) [7]) xNil))))
    (sSeq (sApp 3 (wM (xTup (xCons (xVar 5) (xCons (xVar 6) xNil)))))
    (sSeq (sFor (wiE (wM (xVar 5))) (gName' 7) X_bundle_b1)
    (sAsg (gName' 4) (wV (xCB F_first_bearing (xCons (xVar 0) (xCons (xVar 2) xNil))))))))
@[irreducible] def X_bundle : XS :=
    sSeq (sOwn 2 (wOM (xUn listP (xVar 1))))
    (sSeq (sOwn 3 (wOL wcNil))
    (sSeq (sAsg (gName' 4) (wV (xCB F_first_bearing (xCons (xVar 0) (xCons (xVar 2) xNil)))))
    (sSeq (sWhile fuel (wMT (xB (xOp isntU (xVar 4) (xC .none)))) X_bundle_b2)
    (sFz 3 (sFz 2 (sRet (wM (xCB (on1 tupP) (xCons (xVar 3) xNil)))))))))
@[irreducible] def F_bundle : List PD → Option PD := runP 2 6 X_bundle
-- borne: 0 bears*, 1 numbers, 2 number
@[irreducible] def X_borne : XS :=
    sRet (wM (xCB (on1 sumP) (xCons (xLc (xiE (xVar 1)) (gvName 2) xYes (xOp ixP (xVar 0) (xVar 2)) [2]) xNil)))
@[irreducible] def F_borne : List PD → Option PD := runP 2 1 X_borne
-- is_number: 0 thing
@[irreducible] def X_is_number : XS :=
    sRet (wM (xAnd (xIsi .int (xVar 0)) (xNot (xIsi .bool (xVar 0)))))
@[irreducible] def F_is_number : List PD → Option PD := runP 1 0 X_is_number
-- is_tuple_of: 0 thing, 1 least, 2 most
@[irreducible] def X_is_tuple_of : XS :=
    sRet (wM (xAnd (xIsi .tuple (xVar 0)) (xChain leP leP (xVar 1) (xCB (on1 lenP) (xCons (xVar 0) xNil)) (xVar 2))))
@[irreducible] def F_is_tuple_of : List PD → Option PD := runP 3 0 X_is_tuple_of
-- is_form: 0 thing, 1 many, 2 bears
@[irreducible] def X_is_form : XS :=
    sRet (wM (xAnd (xCB F_is_tuple_of (xCons (xVar 0) (xCons (xVar 1) (xCons (xVar 1) xNil)))) (xCB (on1 allP) (xCons (xLc (xiE (xVar 0)) (gvName 2) xYes (xAnd (xCB F_is_number (xCons (xVar 2) xNil)) (xOp geP (xVar 2) (xC (.int 0)))) [2]) xNil))))
@[irreducible] def F_is_form : List PD → Option PD := runP 2 1 X_is_form
-- streamfault: 0 web, 1 thing, 2 roads, 3 gives, 4 takes, 5 road, 6 bears, 7 house, 8 order
@[irreducible] def X_streamfault_b1 : XS :=
    sIf (wMT (xB (xOp gtU (xVar 6) (xOp ixP (xOp ixP (xVar 2) (xVar 5)) (xC (.int 2)))))) (sRet (wM (xTup (xCons (xC (.str "room")) (xCons (xVar 5) xNil))))) sNext
@[irreducible] def X_streamfault_b2 : XS :=
    sIf (wMT (xB (xOp neP (xCB F_borne (xCons (xVar 1) (xCons (xOp ixP (xVar 4) (xVar 7)) xNil))) (xCB F_borne (xCons (xVar 1) (xCons (xVar 8) xNil)))))) (sRet (wM (xTup (xCons (xC (.str "house")) (xCons (xVar 7) xNil))))) sNext
@[irreducible] def X_streamfault : XS :=
    sSeq (sAsg (gTup' 3 (gCons' (gName' 2) (gCons' (gName' 3) (gCons' (gName' 4) gNil')))) (wM (xVar 0)))
    (sSeq (sIf (wMT (xTNot (xB (xCB F_is_form (xCons (xVar 1) (xCons (xCB (on1 lenP) (xCons (xVar 2) xNil)) xNil)))))) (sRet (wM (xTup (xCons (xC (.str "form")) xNil)))) sNext)
    (sSeq (sFor (wiA enumP (wCons (wM (xVar 1)) wNil)) (gTup' 2 (gCons' (gName' 5) (gCons' (gName' 6) gNil'))) X_streamfault_b1)
    (sSeq (sFor (wiA enumP (wCons (wM (xVar 3)) wNil)) (gTup' 2 (gCons' (gName' 7) (gCons' (gName' 8) gNil'))) X_streamfault_b2)
    (sRet (wM (xC .none))))))
@[irreducible] def F_streamfault : List PD → Option PD := runP 2 7 X_streamfault
-- worth: 0 web, 1 stream
@[irreducible] def X_worth : XS :=
    sRet (wM (xCB F_borne (xCons (xVar 1) (xCons (xCB F_in_doors (xCons (xVar 0) xNil)) xNil))))
@[irreducible] def F_worth : List PD → Option PD := runP 2 0 X_worth
-- law_z92: 0 _law_script, 1 _law_deck_here, 2 _law_turn, 3 _law_web_here, 4 _law_stream_here*, 5 _law_bears, 6 _law_ways, 7 _law_roads, 8 _law_many, 9 _law_few, 10 _law_k, 11 _law_one_here*, 12 _law_rest
@[irreducible] def X_law_z92_b1 : XS :=
    sSet 5 (xVar 10) (wV (xOp addP (xOp ixP (xVar 5) (xVar 10)) (xVar 9)))
@[irreducible] def X_law_z92_b2 : XS :=
    sSeq (sAsg (gName' 9) (wCallK 1 F__law_next (wCons (wM (xOp addP (xVar 8) (xC (.int 1)))) wNil)))
    (sSeq (sIf (wMT (xB (xOp isU (xOp ixP (xOp ixP (xOp ixP (xVar 3) (xC (.int 0))) (xOp ixP (xVar 7) (xC (.int 0)))) (xC (.int 0))) (xC .none)))) (sAsg (gName' 6) (wM (xOp addP (xVar 6) (xVar 9)))) sNext)
    (sFor (wiE (wM (xVar 7))) (gName' 10) X_law_z92_b1))
@[irreducible] def X_law_z92_b3 : XS :=
    sSeq (sAsg (gName' 3) (wCallK 1 F__law_web (wCons (wM (xC (.int 8))) (wCons (wM (xC (.int 20))) (wCons (wOp eqP (wCallK 1 F__law_next (wCons (wM (xC (.int 2))) wNil)) (wM (xC (.int 0)))) wNil)))))
    (sSeq (sAsg (gName' 4) (wCallK 1 F__law_stream_f (wCons (wM (xVar 3)) (wCons (wCallK 1 F__law_next (wCons (wM (xC (.int 12))) wNil)) wNil))))
    (sSeq (sPar 5 6 (wcSub (wOM (xOp repP (xLst (xCons (xC (.int 0)) xNil)) (xCB (on1 lenP) (xCons (xVar 4) xNil)))) (wcDat (wM (xC (.int 0))) wcNil)))
    (sSeq (sFor (wiE (wM (xCB F_bundle (xCons (xVar 3) (xCons (xVar 4) xNil))))) (gTup' 2 (gCons' (gName' 7) (gCons' (gName' 8) gNil'))) X_law_z92_b2)
    (sFz 5 (sSeq (sAsg (gName' 11) (wM (xCB (on1 tupP) (xCons (xVar 5) xNil))))
    (sSeq (sAsg (gName' 12) (wM (xCB (on1 tupP) (xCons (xLc (xiA rngP (xCons (xCB (on1 lenP) (xCons (xVar 4) xNil)) xNil)) (gvName 10) xYes (xOp subP (xOp ixP (xVar 4) (xVar 10)) (xOp ixP (xVar 11) (xVar 10))) [10]) xNil))))
    (sSeq (sIf (wMT (xTOr (xB (xOp isntU (xCB F_streamfault (xCons (xVar 3) (xCons (xVar 11) xNil))) (xC .none))) (xB (xOp isntU (xCB F_streamfault (xCons (xVar 3) (xCons (xVar 12) xNil))) (xC .none))))) (sFz 1 (sRet (wM (xC (.bool false))))) sNext)
    (sSeq (sIf (wMT (xB (xOp neP (xCB F_worth (xCons (xVar 3) (xCons (xVar 11) xNil))) (xVar 6)))) (sFz 1 (sRet (wM (xC (.bool false))))) sNext)
    (sIf (wMT (xB (xOp neP (xOp addP (xCB F_worth (xCons (xVar 3) (xCons (xVar 11) xNil))) (xCB F_worth (xCons (xVar 3) (xCons (xVar 12) xNil)))) (xCB F_worth (xCons (xVar 3) (xCons (xVar 4) xNil)))))) (sFz 1 (sRet (wM (xC (.bool false))))) sNext)))))))))
@[irreducible] def X_law_z92 : XS :=
    sSeq (sOwn 1 (wCallD F__law_deck_h (wCons (wM (xVar 0)) wNil)))
    (sSeq (sFor (wiA rngP (wCons (wM (xC (.int 6))) wNil)) (gName' 2) X_law_z92_b3)
    (sFz 1 (sRet (wM (xC (.bool true))))))
@[irreducible] def F_law_z92 : List PD → Option PD := runP 1 12 X_law_z92
-- _law_better_b: 0 _law_web_here, 1 _law_house, 2 _law_one_here*, 3 _law_other*, 4 _law_here, 5 _law_there, 6 _law_mine*, 7 _law_theirs*, 8 _law_road, 9 _law_k
@[irreducible] def X__law_better_b : XS :=
    sSeq (sPar 4 5 (wcDat (wM (xOp inP (xVar 1) (xOp ixP (xVar 2) (xC (.int 1))))) (wcDat (wM (xOp inP (xVar 1) (xOp ixP (xVar 3) (xC (.int 1))))) wcNil)))
    (sSeq (sIf (wMT (xB (xOp neP (xVar 4) (xVar 5)))) (sRet (wM (xOp ixP (xLst (xCons (xC (.int 1)) (xCons (xUn negP (xC (.int 1))) xNil))) (xCB (on1 toIntP) (xCons (xVar 4) xNil))))) sNext)
    (sSeq (sAsg (gName' 6) (wM (xLc (xiE (xOp ixP (xOp ixP (xVar 0) (xC (.int 1))) (xVar 1))) (gvName 8) xYes (xOp ixP (xOp ixP (xVar 2) (xC (.int 0))) (xVar 8)) [8])))
    (sSeq (sAsg (gName' 7) (wM (xLc (xiE (xOp ixP (xOp ixP (xVar 0) (xC (.int 1))) (xVar 1))) (gvName 8) xYes (xOp ixP (xOp ixP (xVar 3) (xC (.int 0))) (xVar 8)) [8])))
    (sSeq (sIf (wMT (xB (xOp eqP (xVar 6) (xVar 7)))) (sRet (wM (xC (.int 0)))) sNext)
    (sSeq (sIf (wMT (xB (xVar 4))) (sRet (wM (xOp ixP (xLst (xCons (xUn negP (xC (.int 1))) (xCons (xC (.int 1)) xNil))) (xCB (on1 toIntP) (xCons (xOp neP (xLc (xiA rngP (xCons (xCB (on1 lenP) (xCons (xVar 6) xNil)) xNil)) (gvName 9) (xB (xOp gtU (xOp ixP (xVar 6) (xVar 9)) (xOp ixP (xVar 7) (xVar 9)))) (xVar 9) [9]) (xLst xNil)) xNil))))) sNext)
    (sSeq (sIf (wMT (xB (xOp neP (xCB (on1 sumP) (xCons (xVar 6) xNil)) (xCB (on1 sumP) (xCons (xVar 7) xNil))))) (sRet (wM (xOp ixP (xLst (xCons (xUn negP (xC (.int 1))) (xCons (xC (.int 1)) xNil))) (xCB (on1 toIntP) (xCons (xOp ltP (xCB (on1 sumP) (xCons (xVar 6) xNil)) (xCB (on1 sumP) (xCons (xVar 7) xNil))) xNil))))) sNext)
    (sRet (wM (xOp ixP (xLst (xCons (xUn negP (xC (.int 1))) (xCons (xC (.int 1)) xNil))) (xCB (on1 toIntP) (xCons (xOp gtU (xVar 6) (xVar 7)) xNil)))))))))))
@[irreducible] def F__law_better_b : List PD → Option PD := runP 4 6 X__law_better_b
-- _law_less_d: 0 _law_order_here, 1 _law_road, 2 _law_stream*, 3 _law_k
@[irreducible] def X__law_less_d : XS :=
    sRet (wM (xOp neP (xLc (xiE (xSl (xVar 0) (xPart (xOp addP (xIdx (xVar 0) (xVar 1)) (xC (.int 1)))) xNoPart)) (gvName 3) (xB (xOp gtU (xOp ixP (xVar 2) (xVar 3)) (xC (.int 0)))) (xVar 3) [3]) (xLst xNil)))
@[irreducible] def F__law_less_d : List PD → Option PD := runP 3 1 X__law_less_d
-- _law_calms_d: 0 _law_web_here, 1 _law_stream, 2 _law_lot, 3 _law_road, 4 _law_begin, 5 _law_end, 6 _law_room, 7 _law_pressed
@[irreducible] def X__law_calms_d_b1 : XS :=
    sSeq (sAsg (gTup' 3 (gCons' (gName' 4) (gCons' (gName' 5) (gCons' (gName' 6) gNil')))) (wM (xOp ixP (xOp ixP (xVar 0) (xC (.int 0))) (xVar 3))))
    (sSeq (sAsg (gName' 7) (wM (xOr (xOp isU (xVar 4) (xC .none)) (xOr (xOp inP (xVar 4) (xVar 2)) (xCB F__law_less_d (xCons (xOp ixP (xOp ixP (xVar 0) (xC (.int 1))) (xVar 4)) (xCons (xVar 3) (xCons (xVar 1) xNil))))))))
    (sIf (wMT (xTAnd (xB (xVar 7)) (xB (xOp ltP (xOp ixP (xVar 1) (xVar 3)) (xVar 6))))) (sIf (wMT (xTOr (xB (xOp isU (xVar 5) (xC .none))) (xTOr (xB (xOp notinP (xVar 5) (xVar 2))) (xB (xCB F__law_less_d (xCons (xOp ixP (xOp ixP (xVar 0) (xC (.int 2))) (xVar 5)) (xCons (xVar 3) (xCons (xVar 1) xNil)))))))) (sRet (wM (xC (.bool false)))) sNext) sNext))
@[irreducible] def X__law_calms_d : XS :=
    sSeq (sFor (wiA rngP (wCons (wM (xCB (on1 lenP) (xCons (xOp ixP (xVar 0) (xC (.int 0))) xNil))) wNil)) (gName' 3) X__law_calms_d_b1)
    (sRet (wM (xC (.bool true))))
@[irreducible] def F__law_calms_d : List PD → Option PD := runP 3 5 X__law_calms_d
-- _law_sets: 0 _law_web_here, 1 _law_found, 2 _law_house*, 3 _law_lot
@[irreducible] def X__law_sets_b1 : XS :=
    sAsg (gName' 1) (wM (xOp addP (xVar 1) (xLc (xiE (xVar 1)) (gvName 3) xYes (xOp addP (xVar 3) (xTup (xCons (xVar 2) xNil))) [3])))
@[irreducible] def X__law_sets : XS :=
    sSeq (sAsg (gName' 1) (wM (xLst (xCons (xTup xNil) xNil))))
    (sSeq (sFor (wiA rngP (wCons (wM (xCB (on1 lenP) (xCons (xOp ixP (xVar 0) (xC (.int 1))) xNil))) wNil)) (gName' 2) X__law_sets_b1)
    (sRet (wM (xVar 1))))
@[irreducible] def F__law_sets : List PD → Option PD := runP 1 3 X__law_sets
-- _law_even: 0 _law_web_here, 1 _law_stream*, 2 _law_house, 3 _law_k
@[irreducible] def X__law_even_b1 : XS :=
    sIf (wMT (xB (xOp neP (xCB (on1 sumP) (xCons (xLc (xiE (xOp ixP (xOp ixP (xVar 0) (xC (.int 1))) (xVar 2))) (gvName 3) xYes (xOp ixP (xVar 1) (xVar 3)) [3]) xNil)) (xCB (on1 sumP) (xCons (xLc (xiE (xOp ixP (xOp ixP (xVar 0) (xC (.int 2))) (xVar 2))) (gvName 3) xYes (xOp ixP (xVar 1) (xVar 3)) [3]) xNil))))) (sRet (wM (xC (.bool false)))) sNext
@[irreducible] def X__law_even : XS :=
    sSeq (sFor (wiA rngP (wCons (wM (xCB (on1 lenP) (xCons (xOp ixP (xVar 0) (xC (.int 1))) xNil))) wNil)) (gName' 2) X__law_even_b1)
    (sRet (wM (xC (.bool true))))
@[irreducible] def F__law_even : List PD → Option PD := runP 2 2 X__law_even
-- _law_streams_d: 0 _law_web_here*, 1 _law_found, 2 _law_begin, 3 _law_end, 4 _law_room, 5 _law_more, 6 _law_stream*, 7 _law_bears
@[irreducible] def X__law_streams_d_b1 : XS :=
    sExt 5 (wM (xLc (xiA rngP (xCons (xOp addP (xVar 4) (xC (.int 1))) xNil)) (gvName 7) xYes (xOp addP (xVar 6) (xTup (xCons (xVar 7) xNil))) [7]))
@[irreducible] def X__law_streams_d_b2 : XS :=
    sSeq (sOwn 5 (wOL wcNil))
    (sSeq (sFor (wiE (wM (xVar 1))) (gName' 6) X__law_streams_d_b1)
    (sFz 5 (sAsg (gName' 1) (wM (xVar 5)))))
@[irreducible] def X__law_streams_d : XS :=
    sSeq (sAsg (gName' 1) (wM (xLst (xCons (xTup xNil) xNil))))
    (sSeq (sFor (wiE (wM (xOp ixP (xVar 0) (xC (.int 0))))) (gTup' 3 (gCons' (gName' 2) (gCons' (gName' 3) (gCons' (gName' 4) gNil')))) X__law_streams_d_b2)
    (sRet (wM (xLc (xiE (xVar 1)) (gvName 6) (xB (xCB F__law_even (xCons (xVar 0) (xCons (xVar 6) xNil)))) (xVar 6) [6]))))
@[irreducible] def F__law_streams_d : List PD → Option PD := runP 1 7 X__law_streams_d
-- _law_both_c: 0 _law_web_here*, 1 _law_found, 2 _law_stream*, 3 _law_lot
@[irreducible] def X__law_both_c_b1 : XS :=
    sExt 1 (wM (xLc (xiE (xCB F__law_sets (xCons (xVar 0) xNil))) (gvName 3) (xB (xCB F__law_calms_d (xCons (xVar 0) (xCons (xVar 2) (xCons (xVar 3) xNil))))) (xTup (xCons (xVar 2) (xCons (xVar 3) xNil))) [3]))
@[irreducible] def X__law_both_c : XS :=
    sSeq (sOwn 1 (wOL wcNil))
    (sSeq (sFor (wiE (wM (xCB F__law_streams_d (xCons (xVar 0) xNil)))) (gName' 2) X__law_both_c_b1)
    (sFz 1 (sRet (wM (xVar 1)))))
@[irreducible] def F__law_both_c : List PD → Option PD := runP 1 3 X__law_both_c
-- _law_deck_f: 0 _law_script, 1 _law_cell
@[irreducible] def X__law_deck_f : XS :=
    sRetO (wOL (wcDat (wM (xLc (xiE (xSl (xVar 0) xNoPart (xPart (xC (.int 63))))) (gvName 1) xYes (xCB (on1 absP) (xCons (xVar 1) xNil)) [1])) (wcDat (wM (xC (.int 0))) (wcDat (wM (xC (.int 0))) (wcDat (wM (xC (.int 0))) wcNil)))))
@[irreducible] def F__law_deck_f : List PD → Option (List Cel) := runD 1 1 X__law_deck_f
-- _law_mixed_b: 0 _law_cell, 1 _law_turn
@[irreducible] def X__law_mixed_b : XS :=
    sRet (wM (xOp divP (xOp modP (xOp powP (xOp addP (xOp addP (xOp modP (xVar 0) (xC (.int 2147483629))) (xOp mulU (xVar 1) (xC (.int 1000003)))) (xC (.int 17))) (xC (.int 5))) (xC (.int 2147483647))) (xC (.int 7))))
@[irreducible] def F__law_mixed_b : List PD → Option PD := runP 2 0 X__law_mixed_b
-- _law_next_c: 0 _law_deck_here, 1 _law_many, 2 _law_cell, 3 _law_digit, 4 _law_number
@[irreducible] def X__law_next_c : XS :=
    sSeq (sSet 0 (xC (.int 3)) (wV (xOp addP (xOp ixP (xVar 0) (xC (.int 3))) (xC (.int 1)))))
    (sSeq (sIf (wVT (xTAnd (xB (xOp eqP (xOp ixP (xVar 0) (xC (.int 2))) (xC (.int 0)))) (xB (xOp ltP (xOp ixP (xVar 0) (xC (.int 1))) (xCB (on1 lenP) (xCons (xOp ixP (xVar 0) (xC (.int 0))) xNil)))))) (sSeq (sAsg (gName' 2) (wV (xOp ixP (xOp ixP (xVar 0) (xC (.int 0))) (xOp ixP (xVar 0) (xC (.int 1))))))
    (sSeq (sSet 0 (xC (.int 1)) (wV (xOp addP (xOp ixP (xVar 0) (xC (.int 1))) (xC (.int 1)))))
    (sSeq (sIf (wMT (xB (xOp ltP (xVar 2) (xOp powP (xC (.int 10)) (xC (.int 18)))))) (sRet (wV (xOp modP (xCB F__law_mixed_b (xCons (xVar 2) (xCons (xOp ixP (xVar 0) (xC (.int 3))) xNil))) (xVar 1)))) sNext)
    (sSet 0 (xC (.int 2)) (wM (xVar 2)))))) sNext)
    (sSeq (sIf (wVT (xB (xOp gtU (xOp ixP (xVar 0) (xC (.int 2))) (xC (.int 0))))) (sSeq (sAsg (gName' 3) (wV (xOp modP (xOp ixP (xVar 0) (xC (.int 2))) (xVar 1))))
    (sSeq (sSet 0 (xC (.int 2)) (wV (xOp divP (xOp ixP (xVar 0) (xC (.int 2))) (xVar 1))))
    (sRet (wM (xVar 3))))) sNext)
    (sSeq (sAsg (gName' 4) (wV (xOp mulU (xOp ixP (xVar 0) (xC (.int 3))) (xC (.int 48271)))))
    (sSeq (sIf (wVT (xB (xOp neP (xOp ixP (xVar 0) (xC (.int 0))) (xLst xNil)))) (sAsg (gName' 4) (wV (xOp addP (xVar 4) (xOp ixP (xOp ixP (xVar 0) (xC (.int 0))) (xOp modP (xOp mulU (xOp ixP (xVar 0) (xC (.int 3))) (xC (.int 7))) (xCB (on1 lenP) (xCons (xOp ixP (xVar 0) (xC (.int 0))) xNil))))))) sNext)
    (sRet (wV (xOp modP (xCB F__law_mixed_b (xCons (xVar 4) (xCons (xOp ixP (xVar 0) (xC (.int 3))) xNil))) (xVar 1))))))))
@[irreducible] def F__law_next_c : List Cel → List PD → Option (PD × List Cel) := runW 1 3 X__law_next_c
-- _law_far_c: 0 _law_deck_here, 1 _law_web_here, 2 _law_some, 3 _law_k*, 4 _law_far_here, 5 _law_begin, 6 _law_end, 7 _law_room, 8 _law_stream, 9 _law_lot, 10 _law_bears
@[irreducible] def X__law_far_c : XS :=
    sSeq (sAsg (gName' 3) (wOp ixP (wLst (wCons (wM (xC (.int 1))) (wCons (wM (xC (.int 1))) (wCons (wOp addP (wM (xC (.int 1))) (wCallK 0 F__law_next_c (wCons (wM (xOp powP (xC (.int 10)) (xC (.int 11)))) wNil))) wNil)))) (wCallK 0 F__law_next_c (wCons (wM (xC (.int 3))) wNil))))
    (sSeq (sAsg (gName' 4) (wM (xTup (xCons (xCB (on1 tupP) (xCons (xLc (xiE (xOp ixP (xVar 1) (xC (.int 0)))) (gvTup 3 (gvCons (gvName 5) (gvCons (gvName 6) (gvCons (gvName 7) gvNil)))) xYes (xTup (xCons (xVar 5) (xCons (xVar 6) (xCons (xOp mulU (xVar 7) (xVar 3)) xNil)))) [5, 6, 7]) xNil)) (xCons (xOp ixP (xVar 1) (xC (.int 1))) (xCons (xOp ixP (xVar 1) (xC (.int 2))) xNil))))))
    (sRet (wM (xTup (xCons (xVar 4) (xCons (xLc (xiE (xVar 2)) (gvTup 2 (gvCons (gvName 8) (gvCons (gvName 9) gvNil))) xYes (xTup (xCons (xCB (on1 tupP) (xCons (xLc (xiE (xVar 8)) (gvName 10) xYes (xOp mulU (xVar 10) (xVar 3)) [10]) xNil)) (xCons (xVar 9) xNil))) [8, 9]) xNil))))))
@[irreducible] def F__law_far_c : List Cel → List PD → Option (PD × List Cel) := runW 2 8 X__law_far_c
-- _law_no_less: 0 _law_one_here*, 1 _law_other*, 2 _law_roads, 3 _law_more, 4 _law_fewer, 5 _law_road
@[irreducible] def X__law_no_less : XS :=
    sSeq (sAsg (gName' 3) (wM (xLc (xiE (xVar 2)) (gvName 5) (xB (xOp gtU (xOp ixP (xOp ixP (xVar 0) (xC (.int 0))) (xVar 5)) (xOp ixP (xOp ixP (xVar 1) (xC (.int 0))) (xVar 5)))) (xVar 5) [5])))
    (sSeq (sAsg (gName' 4) (wM (xLc (xiE (xVar 2)) (gvName 5) (xB (xOp ltP (xOp ixP (xOp ixP (xVar 0) (xC (.int 0))) (xVar 5)) (xOp ixP (xOp ixP (xVar 1) (xC (.int 0))) (xVar 5)))) (xVar 5) [5])))
    (sRet (wM (xOr (xOp eqP (xVar 3) (xLst xNil)) (xOp eqP (xVar 4) (xLst xNil))))))
@[irreducible] def F__law_no_less : List PD → Option PD := runP 3 3 X__law_no_less
-- _law_one_b: 0 _law_deck_here, 1 _law_things
@[irreducible] def X__law_one_b : XS :=
    sRet (wOp ixP (wM (xVar 1)) (wCallK 0 F__law_next_c (wCons (wM (xCB (on1 lenP) (xCons (xVar 1) xNil))) wNil)))
@[irreducible] def F__law_one_b : List Cel → List PD → Option (PD × List Cel) := runW 1 0 X__law_one_b
-- _law_order_d: 0 _law_deck_here, 1 _law_some, 2 _law_left, 3 _law_found
@[irreducible] def X__law_order_d_b1 : XS :=
    sApp 3 (wPop 2 (wCallK 0 F__law_next_c (wCons (wV (xCB (on1 lenP) (xCons (xVar 2) xNil))) wNil)))
@[irreducible] def X__law_order_d : XS :=
    sSeq (sPar 2 3 (wcSub (wOM (xUn listP (xVar 1))) (wcSub (wOL wcNil) wcNil)))
    (sSeq (sWhile fuel (wVT (xB (xOp neP (xVar 2) (xLst xNil)))) X__law_order_d_b1)
    (sFz 2 (sFz 3 (sRet (wM (xCB (on1 tupP) (xCons (xVar 3) xNil)))))))
@[irreducible] def F__law_order_d : List Cel → List PD → Option (PD × List Cel) := runW 1 2 X__law_order_d
-- standing_of: 0 web, 1 house, 2 pair, 3 stream*, 4 lot, 5 bears, 6 road
@[irreducible] def X_standing_of : XS :=
    sSeq (sAsg (gTup' 2 (gCons' (gName' 3) (gCons' (gName' 4) gNil'))) (wM (xVar 2)))
    (sSeq (sAsg (gName' 5) (wM (xLc (xiE (xOp ixP (xOp ixP (xVar 0) (xC (.int 1))) (xVar 1))) (gvName 6) xYes (xOp ixP (xVar 3) (xVar 6)) [6])))
    (sSeq (sIf (wMT (xB (xOp inP (xVar 1) (xVar 4)))) (sRet (wM (xLst (xCons (xC (.int 0)) (xCons (xC (.int 0)) (xStar (xVar 5) xNil)))))) sNext)
    (sRet (wM (xLst (xCons (xC (.int 1)) (xCons (xUn negP (xCB F_borne (xCons (xVar 3) (xCons (xOp ixP (xOp ixP (xVar 0) (xC (.int 2))) (xVar 1)) xNil)))) (xStar (xVar 5) xNil))))))))
@[irreducible] def F_standing_of : List PD → Option PD := runP 3 4 X_standing_of
-- liked: 0 web, 1 house, 2 one, 3 other, 4 first, 5 second
@[irreducible] def X_liked : XS :=
    sSeq (sAsg (gName' 4) (wM (xCB F_standing_of (xCons (xVar 0) (xCons (xVar 1) (xCons (xVar 2) xNil))))))
    (sSeq (sAsg (gName' 5) (wM (xCB F_standing_of (xCons (xVar 0) (xCons (xVar 1) (xCons (xVar 3) xNil))))))
    (sSeq (sIf (wMT (xB (xOp eqP (xVar 4) (xVar 5)))) (sRet (wM (xC (.int 0)))) sNext)
    (sRet (wM (xIf (xB (xOp gtU (xVar 4) (xVar 5))) (xC (.int 1)) (xUn negP (xC (.int 1))))))))
@[irreducible] def F_liked : List PD → Option PD := runP 4 2 X_liked
-- _law_right_m: 0 _law_web_here, 1 _law_one_here, 2 _law_other, 3 _law_house, 4 _law_both_here, 5 _law_due
@[irreducible] def X__law_right_m_b1 : XS :=
    sSeq (sAsg (gName' 4) (wM (xOp addP (xCB (on1 toIntP) (xCons (xOp inP (xVar 3) (xOp ixP (xVar 1) (xC (.int 1)))) xNil)) (xCB (on1 toIntP) (xCons (xOp inP (xVar 3) (xOp ixP (xVar 2) (xC (.int 1)))) xNil)))))
    (sSeq (sIf (wMT (xTAnd (xB (xOp eqP (xVar 4) (xC (.int 2)))) (xTNot (xB (xCB F__law_no_less (xCons (xVar 1) (xCons (xVar 2) (xCons (xOp ixP (xOp ixP (xVar 0) (xC (.int 1))) (xVar 3)) xNil)))))))) (sRet (wM (xC (.bool false)))) sNext)
    (sSeq (sIf (wMT (xTAnd (xB (xOp eqP (xVar 4) (xC (.int 0)))) (xTNot (xB (xCB F__law_no_less (xCons (xVar 1) (xCons (xVar 2) (xCons (xOp ixP (xOp ixP (xVar 0) (xC (.int 2))) (xVar 3)) xNil)))))))) (sRet (wM (xC (.bool false)))) sNext)
    (sSeq (sAsg (gName' 5) (wM (xCB F__law_better_b (xCons (xVar 0) (xCons (xVar 3) (xCons (xVar 1) (xCons (xVar 2) xNil)))))))
    (sIf (wMT (xB (xOp neP (xCB (on1 reprP) (xCons (xLst (xCons (xCB F_liked (xCons (xVar 0) (xCons (xVar 3) (xCons (xVar 1) (xCons (xVar 2) xNil))))) (xCons (xCB F_liked (xCons (xVar 0) (xCons (xVar 3) (xCons (xVar 2) (xCons (xVar 1) xNil))))) xNil))) xNil)) (xCB (on1 reprP) (xCons (xLst (xCons (xVar 5) (xCons (xOp subP (xC (.int 0)) (xVar 5)) xNil))) xNil))))) (sRet (wM (xC (.bool false)))) sNext))))
@[irreducible] def X__law_right_m : XS :=
    sSeq (sFor (wiA rngP (wCons (wM (xCB (on1 lenP) (xCons (xOp ixP (xVar 0) (xC (.int 1))) xNil))) wNil)) (gName' 3) X__law_right_m_b1)
    (sRet (wM (xC (.bool true))))
@[irreducible] def F__law_right_m : List PD → Option PD := runP 3 3 X__law_right_m
-- _law_web_f: 0 _law_deck_here*, 1 _law_most, 2 _law_many, 3 _law_kind, 4 _law_houses, 5 _law_roads*, 6 _law_k, 7 _law_spots, 8 _law_begin, 9 _law_gives, 10 _law_takes, 11 _law_house, 12 _law_row
@[irreducible] def X__law_web_f_b1 : XS :=
    sSeq (sOwn 7 (wOM (xOp catP (xLst (xCons (xC .none) xNil)) (xUn rgL (xVar 4)))))
    (sSeq (sAsg (gName' 8) (wPop 7 (wCallK 0 F__law_next_c (wCons (wV (xCB (on1 lenP) (xCons (xVar 7) xNil))) wNil))))
    (sFz 7 (sApp 5 (wTup (wCons (wM (xVar 8)) (wCons (wCallK 0 F__law_one_b (wCons (wM (xVar 7)) wNil)) (wCons (wOp ixP (wM (xLst (xCons (xC (.int 1)) (xCons (xC (.int 2)) (xCons (xC (.int 1)) (xCons (xC (.int 0)) (xCons (xC (.int 2)) (xCons (xC (.int 1)) xNil)))))))) (wCallK 0 F__law_next_c (wCons (wM (xC (.int 6))) wNil))) wNil)))))))
@[irreducible] def X__law_web_f : XS :=
    sSeq (sPar3 3 4 5 (wcDat (wCallK 0 F__law_next_c (wCons (wM (xC (.int 4))) wNil)) (wcDat (wOp addP (wM (xC (.int 1))) (wCallK 0 F__law_next_c (wCons (wM (xVar 1)) wNil))) (wcSub (wOL wcNil) wcNil))))
    (sSeq (sIf (wMT (xTAnd (xB (xOp eqP (xVar 3) (xC (.int 0)))) (xB (xOp gtU (xVar 2) (xC (.int 4)))))) (sFz 5 (sSeq (sAsg (gName' 4) (wM (xCB maxP (xCons (xC (.int 2)) (xCons (xVar 4) xNil)))))
    (sOwn 5 (wOL (wcDat (wM (xTup (xCons (xC .none) (xCons (xC (.int 0)) (xCons (xC (.int 1)) xNil))))) (wcDat (wTup (wCons (wM (xC (.int 0))) (wCons (wM (xC (.int 1))) (wCons (wOp addP (wM (xC (.int 1))) (wCallK 0 F__law_next_c (wCons (wM (xC (.int 2))) wNil))) wNil)))) (wcDat (wTup (wCons (wM (xC (.int 0))) (wCons (wM (xC (.int 1))) (wCons (wOp addP (wM (xC (.int 1))) (wCallK 0 F__law_next_c (wCons (wM (xC (.int 2))) wNil))) wNil)))) (wcDat (wM (xTup (xCons (xC (.int 1)) (xCons (xC .none) (xCons (xC (.int 1)) xNil))))) wcNil)))))))) sNext)
    (sSeq (sFor (wiA rngP (wCons (wOp subP (wOp addP (wM (xC (.int 1))) (wCallK 0 F__law_next_c (wCons (wM (xVar 2)) wNil))) (wV (xCB (on1 lenP) (xCons (xVar 5) xNil)))) wNil)) (gName' 6) X__law_web_f_b1)
    (sFz 5 (sSeq (sAsg (gName' 9) (wM (xLc (xiA rngP (xCons (xVar 4) xNil)) (gvName 11) xYes (xLc (xiA rngP (xCons (xCB (on1 lenP) (xCons (xVar 5) xNil)) xNil)) (gvName 6) (xB (xOp eqP (xOp ixP (xOp ixP (xVar 5) (xVar 6)) (xC (.int 0))) (xVar 11))) (xVar 6) [6]) [11])))
    (sSeq (sAsg (gName' 10) (wM (xLc (xiA rngP (xCons (xVar 4) xNil)) (gvName 11) xYes (xLc (xiA rngP (xCons (xCB (on1 lenP) (xCons (xVar 5) xNil)) xNil)) (gvName 6) (xB (xOp eqP (xOp ixP (xOp ixP (xVar 5) (xVar 6)) (xC (.int 1))) (xVar 11))) (xVar 6) [6]) [11])))
    (sSeq (sIf (wMT (xB (xOp ltP (xVar 3) (xC (.int 2))))) (sRet (wM (xTup (xCons (xCB (on1 tupP) (xCons (xVar 5) xNil)) (xCons (xCB (on1 tupP) (xCons (xLc (xiE (xVar 9)) (gvName 12) xYes (xCB (on1 tupP) (xCons (xVar 12) xNil)) [12]) xNil)) (xCons (xCB (on1 tupP) (xCons (xLc (xiE (xVar 10)) (gvName 12) xYes (xCB (on1 tupP) (xCons (xUn backP (xVar 12)) xNil)) [12]) xNil)) xNil)))))) sNext)
    (sSeq (sAsg (gName' 9) (wCB (on1 tupP) (wCons (wFz (wLc (wiE (wM (xVar 9))) (gName' 12) (wMT xYes) (wCallK 0 F__law_order_d (wCons (wM (xVar 12)) wNil)) [12])) wNil)))
    (sRet (wTup (wCons (wM (xCB (on1 tupP) (xCons (xVar 5) xNil))) (wCons (wM (xVar 9)) (wCons (wCB (on1 tupP) (wCons (wFz (wLc (wiE (wM (xVar 10))) (gName' 12) (wMT xYes) (wCallK 0 F__law_order_d (wCons (wM (xVar 12)) wNil)) [12])) wNil)) wNil))))))))))))
@[irreducible] def F__law_web_f : List Cel → List PD → Option (PD × List Cel) := runW 2 10 X__law_web_f
-- _law_wide_d: 0 _law_deck_here, 1 _law_houses, 2 _law_roads*, 3 _law_k, 4 _law_spots, 5 _law_begin, 6 _law_room, 7 _law_gives, 8 _law_takes, 9 _law_house*
@[irreducible] def X__law_wide_d_b1 : XS :=
    sSeq (sOwn 4 (wOM (xOp catP (xLst (xCons (xC .none) xNil)) (xUn rgL (xVar 1)))))
    (sSeq (sAsg (gName' 5) (wPop 4 (wCallK 0 F__law_next_c (wCons (wV (xCB (on1 lenP) (xCons (xVar 4) xNil))) wNil))))
    (sFz 4 (sSeq (sAsg (gName' 6) (wOp ixP (wLst (wCons (wM (xC (.int 0))) (wCons (wM (xC (.int 1))) (wCons (wM (xC (.int 2))) (wCons (wCallK 0 F__law_next_c (wCons (wM (xOp powP (xC (.int 10)) (xC (.int 6)))) wNil)) (wCons (wOp subP (wM (xOp powP (xC (.int 10)) (xC (.int 12)))) (wCallK 0 F__law_next_c (wCons (wM (xC (.int 3))) wNil))) wNil)))))) (wCallK 0 F__law_next_c (wCons (wM (xC (.int 5))) wNil))))
    (sApp 2 (wTup (wCons (wM (xVar 5)) (wCons (wCallK 0 F__law_one_b (wCons (wM (xVar 4)) wNil)) (wCons (wM (xVar 6)) wNil))))))))
@[irreducible] def X__law_wide_d_b2 : XS :=
    sSeq (sApp 7 (wCallK 0 F__law_order_d (wCons (wM (xLc (xiA rngP (xCons (xCB (on1 lenP) (xCons (xVar 2) xNil)) xNil)) (gvName 3) (xB (xOp eqP (xOp ixP (xOp ixP (xVar 2) (xVar 3)) (xC (.int 0))) (xVar 9))) (xVar 3) [3])) wNil)))
    (sApp 8 (wCallK 0 F__law_order_d (wCons (wM (xLc (xiA rngP (xCons (xCB (on1 lenP) (xCons (xVar 2) xNil)) xNil)) (gvName 3) (xB (xOp eqP (xOp ixP (xOp ixP (xVar 2) (xVar 3)) (xC (.int 1))) (xVar 9))) (xVar 3) [3])) wNil)))
@[irreducible] def X__law_wide_d : XS :=
    sSeq (sAsg (gName' 1) (wOp addP (wM (xC (.int 1))) (wCallK 0 F__law_next_c (wCons (wM (xC (.int 8))) wNil))))
    (sSeq (sOwn 2 (wOL wcNil))
    (sSeq (sFor (wiA rngP (wCons (wOp addP (wM (xC (.int 1))) (wCallK 0 F__law_next_c (wCons (wM (xC (.int 20))) wNil))) wNil)) (gName' 3) X__law_wide_d_b1)
    (sFz 2 (sSeq (sPar 7 8 (wcSub (wOL wcNil) (wcSub (wOL wcNil) wcNil)))
    (sSeq (sFor (wiA rngP (wCons (wM (xVar 1)) wNil)) (gName' 9) X__law_wide_d_b2)
    (sFz 8 (sFz 7 (sRet (wM (xTup (xCons (xCB (on1 tupP) (xCons (xVar 2) xNil)) (xCons (xCB (on1 tupP) (xCons (xVar 7) xNil)) (xCons (xCB (on1 tupP) (xCons (xVar 8) xNil)) xNil)))))))))))))
@[irreducible] def F__law_wide_d : List Cel → List PD → Option (PD × List Cel) := runW 0 9 X__law_wide_d
-- is_number_to: 0 thing, 1 most
@[irreducible] def X_is_number_to : XS :=
    sRet (wM (xAnd (xCB F_is_number (xCons (xVar 0) xNil)) (xChain leP leP (xC (.int 0)) (xVar 0) (xVar 1))))
@[irreducible] def F_is_number_to : List PD → Option PD := runP 2 0 X_is_number_to
-- is_order: 0 thing, 1 numbers, 2 number
@[irreducible] def X_is_order : XS :=
    sRet (wM (xAnd (xIsi .tuple (xVar 0)) (xAnd (xCB (on1 allP) (xCons (xLc (xiE (xVar 0)) (gvName 2) xYes (xCB F_is_number (xCons (xVar 2) xNil)) [2]) xNil)) (xOp eqP (xCB (on1 sortP) (xCons (xVar 0) xNil)) (xVar 1)))))
@[irreducible] def F_is_order : List PD → Option PD := runP 2 1 X_is_order
-- is_seat: 0 thing, 1 ties
@[irreducible] def X_is_seat : XS :=
    sRet (wM (xAnd (xCB F_is_tuple_of (xCons (xVar 0) (xCons (xC (.int 2)) (xCons (xC (.int 2)) xNil)))) (xAnd (xCB F_is_number_to (xCons (xOp ixP (xVar 0) (xC (.int 0))) (xCons (xC (.int 1000000000000000)) xNil))) (xCB F_is_order (xCons (xOp ixP (xVar 0) (xC (.int 1))) (xCons (xVar 1) xNil))))))
@[irreducible] def F_is_seat : List PD → Option PD := runP 2 0 X_is_seat
-- are_seats: 0 seats, 1 sitting*, 2 number, 3 seat, 4 tie, 5 other
@[irreducible] def X_are_seats : XS :=
    sRet (wM (xCB (on1 allP) (xCons (xLc (xiA enumP (xCons (xVar 0) xNil)) (gvTup 2 (gvCons (gvName 2) (gvCons (gvName 3) gvNil))) xYes (xCB F_is_seat (xCons (xVar 3) (xCons (xLc (xiA enumP (xCons (xVar 1) xNil)) (gvTup 2 (gvCons (gvName 4) (gvCons (gvName 5) gvNil))) (xB (xOp eqP (xVar 5) (xVar 2))) (xVar 4) [4, 5]) xNil))) [2, 3]) xNil)))
@[irreducible] def F_are_seats : List PD → Option PD := runP 2 4 X_are_seats
-- big_of: 0 web, 1 begin, 2 end, 3 room
@[irreducible] def X_big_of : XS :=
    sRet (wM (xOp addP (xCB (on1 sumP) (xCons (xLc (xiE (xOp ixP (xVar 0) (xC (.int 0)))) (gvTup 3 (gvCons (gvName 1) (gvCons (gvName 2) (gvCons (gvName 3) gvNil)))) xYes (xVar 3) [1, 2, 3]) xNil)) (xC (.int 1))))
@[irreducible] def F_big_of : List PD → Option PD := runP 1 3 X_big_of
-- is_lot: 0 web, 1 thing, 2 houses*, 3 house, 4 ahead
@[irreducible] def X_is_lot : XS :=
    sSeq (sAsg (gName' 2) (wM (xCB (on1 lenP) (xCons (xOp ixP (xVar 0) (xC (.int 1))) xNil))))
    (sSeq (sIf (wMT (xTOr (xTNot (xB (xCB F_is_tuple_of (xCons (xVar 1) (xCons (xC (.int 0)) (xCons (xVar 2) xNil)))))) (xTNot (xB (xCB (on1 allP) (xCons (xLc (xiE (xVar 1)) (gvName 3) xYes (xCB F_is_number_to (xCons (xVar 3) (xCons (xOp subP (xVar 2) (xC (.int 1))) xNil))) [3]) xNil)))))) (sRet (wM (xC (.bool false)))) sNext)
    (sRet (wM (xCB (on1 allP) (xCons (xLc (xiA zipP (xCons (xVar 1) (xCons (xSl (xVar 1) (xPart (xC (.int 1))) xNoPart) xNil))) (gvTup 2 (gvCons (gvName 4) (gvCons (gvName 3) gvNil))) xYes (xOp ltP (xVar 4) (xVar 3)) [4, 3]) xNil)))))
@[irreducible] def F_is_lot : List PD → Option PD := runP 2 3 X_is_lot
-- has_less_liked: 0 bears, 1 order, 2 number
@[irreducible] def X_has_less_liked : XS :=
    sRet (wM (xOp gtU (xCB F_borne (xCons (xVar 0) (xCons (xSl (xVar 1) (xPart (xOp addP (xIdx (xVar 1) (xVar 2)) (xC (.int 1)))) xNoPart) xNil))) (xC (.int 0))))
@[irreducible] def F_has_less_liked : List PD → Option PD := runP 3 0 X_has_less_liked
-- last_gladly: 0 web, 1 stream, 2 road, 3 end
@[irreducible] def X_last_gladly : XS :=
    sSeq (sAsg (gName' 3) (wM (xOp ixP (xOp ixP (xOp ixP (xVar 0) (xC (.int 0))) (xVar 2)) (xC (.int 1)))))
    (sRet (wM (xOr (xOp isU (xVar 3) (xC .none)) (xCB F_has_less_liked (xCons (xVar 1) (xCons (xOp ixP (xOp ixP (xVar 0) (xC (.int 2))) (xVar 3)) (xCons (xVar 2) xNil)))))))
@[irreducible] def F_last_gladly : List PD → Option PD := runP 3 1 X_last_gladly
-- is_stopped: 0 web, 1 stream, 2 lot, 3 road
@[irreducible] def X_is_stopped : XS :=
    sRet (wM (xAnd (xOp inP (xOp ixP (xOp ixP (xOp ixP (xVar 0) (xC (.int 0))) (xVar 3)) (xC (.int 1))) (xVar 2)) (xNot (xCB F_last_gladly (xCons (xVar 0) (xCons (xVar 1) (xCons (xVar 3) xNil)))))))
@[irreducible] def F_is_stopped : List PD → Option PD := runP 4 0 X_is_stopped
-- first_gladly: 0 web, 1 stream, 2 road, 3 begin
@[irreducible] def X_first_gladly : XS :=
    sSeq (sAsg (gName' 3) (wM (xOp ixP (xOp ixP (xOp ixP (xVar 0) (xC (.int 0))) (xVar 2)) (xC (.int 0)))))
    (sRet (wM (xOr (xOp isU (xVar 3) (xC .none)) (xCB F_has_less_liked (xCons (xVar 1) (xCons (xOp ixP (xOp ixP (xVar 0) (xC (.int 1))) (xVar 3)) (xCons (xVar 2) xNil)))))))
@[irreducible] def F_first_gladly : List PD → Option PD := runP 3 1 X_first_gladly
-- pressed: 0 web*, 1 stream*, 2 lot*, 3 road, 4 begin, 5 end, 6 room
@[irreducible] def X_pressed : XS :=
    sRet (wM (xLc (xiA enumP (xCons (xOp ixP (xVar 0) (xC (.int 0))) xNil)) (gvTup 2 (gvCons (gvName 3) (gvCons (gvTup 3 (gvCons (gvName 4) (gvCons (gvName 5) (gvCons (gvName 6) gvNil)))) gvNil))) (xTAnd (xB (xOp ltP (xOp ixP (xVar 1) (xVar 3)) (xVar 6))) (xTOr (xB (xOp inP (xVar 4) (xVar 2))) (xB (xCB F_first_gladly (xCons (xVar 0) (xCons (xVar 1) (xCons (xVar 3) xNil))))))) (xVar 3) [3, 4, 5, 6]))
@[irreducible] def F_pressed : List PD → Option PD := runP 3 4 X_pressed
-- calms: 0 web*, 1 stream*, 2 thing*, 3 road
@[irreducible] def X_calms : XS :=
    sSeq (sIf (wMT (xTNot (xB (xCB F_is_lot (xCons (xVar 0) (xCons (xVar 2) xNil)))))) (sRet (wM (xC (.bool false)))) sNext)
    (sRet (wM (xCB (on1 allP) (xCons (xLc (xiE (xCB F_pressed (xCons (xVar 0) (xCons (xVar 1) (xCons (xVar 2) xNil))))) (gvName 3) xYes (xCB F_is_stopped (xCons (xVar 0) (xCons (xVar 1) (xCons (xVar 2) (xCons (xVar 3) xNil))))) [3]) xNil))))
@[irreducible] def F_calms : List PD → Option PD := runP 3 1 X_calms
-- door_seats: 0 web*, 1 roads, 2 road
@[irreducible] def X_door_seats : XS :=
    sRet (wM (xLc (xiE (xVar 1)) (gvName 2) xYes (xTup (xCons (xOp ixP (xOp ixP (xOp ixP (xVar 0) (xC (.int 0))) (xVar 2)) (xC (.int 2))) (xCons (xTup (xCons (xVar 2) xNil)) xNil))) [2]))
@[irreducible] def F_door_seats : List PD → Option PD := runP 2 1 X_door_seats
-- lying: 0 web, 1 house
@[irreducible] def X_lying : XS :=
    sRet (wM (xOp addP (xCB (on1 lenP) (xCons (xOp ixP (xVar 0) (xC (.int 0))) xNil)) (xOp mulU (xC (.int 2)) (xVar 1))))
@[irreducible] def F_lying : List PD → Option PD := runP 2 0 X_lying
-- standing: 0 web, 1 house
@[irreducible] def X_standing : XS :=
    sRet (wM (xOp addP (xCB F_lying (xCons (xVar 0) (xCons (xVar 1) xNil))) (xC (.int 1))))
@[irreducible] def F_standing : List PD → Option PD := runP 2 0 X_standing
-- givers_of: 0 web*, 1 big*, 2 seats, 3 house, 4 order
@[irreducible] def X_givers_of : XS :=
    sSeq (sAsg (gName' 1) (wM (xCB F_big_of (xCons (xVar 0) xNil))))
    (sSeq (sAsg (gName' 2) (wM (xLc (xiA enumP (xCons (xOp ixP (xVar 0) (xC (.int 1))) xNil)) (gvTup 2 (gvCons (gvName 3) (gvCons (gvName 4) gvNil))) xYes (xTup (xCons (xVar 1) (xCons (xTup (xCons (xCB F_lying (xCons (xVar 0) (xCons (xVar 3) xNil))) (xStar (xVar 4) (xCons (xCB F_standing (xCons (xVar 0) (xCons (xVar 3) xNil))) xNil)))) xNil))) [3, 4])))
    (sRet (wM (xCB (on1 tupP) (xCons (xOp addP (xVar 2) (xCB F_door_seats (xCons (xVar 0) (xCons (xCB F_in_doors (xCons (xVar 0) xNil)) xNil)))) xNil)))))
@[irreducible] def F_givers_of : List PD → Option PD := runP 1 4 X_givers_of
-- house_ties: 0 web, 1 big, 2 ties, 3 house
@[irreducible] def X_house_ties_b1 : XS :=
    sExt 2 (wM (xLst (xCons (xTup (xCons (xVar 3) (xCons (xVar 3) (xCons (xVar 1) xNil)))) (xCons (xTup (xCons (xVar 3) (xCons (xVar 3) (xCons (xVar 1) xNil)))) xNil))))
@[irreducible] def X_house_ties : XS :=
    sSeq (sAsg (gName' 1) (wM (xCB F_big_of (xCons (xVar 0) xNil))))
    (sSeq (sOwn 2 (wOL wcNil))
    (sSeq (sFor (wiA rngP (wCons (wM (xCB (on1 lenP) (xCons (xOp ixP (xVar 0) (xC (.int 1))) xNil))) wNil)) (gName' 3) X_house_ties_b1)
    (sFz 2 (sRet (wM (xCB (on1 tupP) (xCons (xVar 2) xNil)))))))
@[irreducible] def F_house_ties : List PD → Option PD := runP 1 3 X_house_ties
-- out_doors: 0 web, 1 number, 2 road
@[irreducible] def X_out_doors : XS :=
    sRet (wM (xCB (on1 tupP) (xCons (xLc (xiA enumP (xCons (xOp ixP (xVar 0) (xC (.int 0))) xNil)) (gvTup 2 (gvCons (gvName 1) (gvCons (gvName 2) gvNil))) (xB (xOp isU (xOp ixP (xVar 2) (xC (.int 1))) (xC .none))) (xVar 1) [1, 2]) xNil)))
@[irreducible] def F_out_doors : List PD → Option PD := runP 1 2 X_out_doors
-- road_ties: 0 web, 1 coming, 2 going, 3 houses, 4 ties, 5 road, 6 begin, 7 end, 8 room, 9 giver, 10 taker
@[irreducible] def X_road_ties_b1 : XS :=
    sSeq (sAsg (gName' 9) (wM (xIf (xB (xOp isU (xVar 6) (xC .none))) (xOp addP (xVar 3) (xIdx (xVar 1) (xVar 5))) (xVar 6))))
    (sSeq (sAsg (gName' 10) (wM (xIf (xB (xOp isU (xVar 7) (xC .none))) (xOp addP (xVar 3) (xIdx (xVar 2) (xVar 5))) (xVar 7))))
    (sApp 4 (wM (xTup (xCons (xVar 9) (xCons (xVar 10) (xCons (xVar 8) xNil)))))))
@[irreducible] def X_road_ties : XS :=
    sSeq (sAsg (gName' 1) (wM (xCB F_in_doors (xCons (xVar 0) xNil))))
    (sSeq (sAsg (gName' 2) (wM (xCB F_out_doors (xCons (xVar 0) xNil))))
    (sSeq (sAsg (gName' 3) (wM (xCB (on1 lenP) (xCons (xOp ixP (xVar 0) (xC (.int 1))) xNil))))
    (sSeq (sOwn 4 (wOL wcNil))
    (sSeq (sFor (wiA enumP (wCons (wM (xOp ixP (xVar 0) (xC (.int 0)))) wNil)) (gTup' 2 (gCons' (gName' 5) (gCons' (gTup' 3 (gCons' (gName' 6) (gCons' (gName' 7) (gCons' (gName' 8) gNil')))) gNil'))) X_road_ties_b1)
    (sFz 4 (sRet (wM (xCB (on1 tupP) (xCons (xVar 4) xNil)))))))))
@[irreducible] def F_road_ties : List PD → Option PD := runP 1 10 X_road_ties
-- takers_of: 0 web*, 1 big*, 2 seats, 3 house, 4 order
@[irreducible] def X_takers_of : XS :=
    sSeq (sAsg (gName' 1) (wM (xCB F_big_of (xCons (xVar 0) xNil))))
    (sSeq (sAsg (gName' 2) (wM (xLc (xiA enumP (xCons (xOp ixP (xVar 0) (xC (.int 2))) xNil)) (gvTup 2 (gvCons (gvName 3) (gvCons (gvName 4) gvNil))) xYes (xTup (xCons (xVar 1) (xCons (xTup (xCons (xCB F_standing (xCons (xVar 0) (xCons (xVar 3) xNil))) (xStar (xVar 4) (xCons (xCB F_lying (xCons (xVar 0) (xCons (xVar 3) xNil))) xNil)))) xNil))) [3, 4])))
    (sRet (wM (xCB (on1 tupP) (xCons (xOp addP (xVar 2) (xCB F_door_seats (xCons (xVar 0) (xCons (xCB F_out_doors (xCons (xVar 0) xNil)) xNil)))) xNil)))))
@[irreducible] def F_takers_of : List PD → Option PD := runP 1 4 X_takers_of
-- fair_of: 0 web
@[irreducible] def X_fair_of : XS :=
    sRet (wM (xTup (xCons (xOp addP (xCB F_road_ties (xCons (xVar 0) xNil)) (xCB F_house_ties (xCons (xVar 0) xNil))) (xCons (xCB F_givers_of (xCons (xVar 0) xNil)) (xCons (xCB F_takers_of (xCons (xVar 0) xNil)) xNil)))))
@[irreducible] def F_fair_of : List PD → Option PD := runP 1 0 X_fair_of
-- with_pressed: 0 web*, 1 stream, 2 lot*, 3 ends*, 4 road, 5 house
@[irreducible] def X_with_pressed : XS :=
    sSeq (sAsg (gName' 3) (wM (xLc (xiE (xCB F_pressed (xCons (xVar 0) (xCons (xVar 1) (xCons (xVar 2) xNil))))) (gvName 4) xYes (xOp ixP (xOp ixP (xOp ixP (xVar 0) (xC (.int 0))) (xVar 4)) (xC (.int 1))) [4])))
    (sRet (wM (xCB (on1 tupP) (xCons (xLc (xiA rngP (xCons (xCB (on1 lenP) (xCons (xOp ixP (xVar 0) (xC (.int 1))) xNil)) xNil)) (gvName 5) (xTOr (xB (xOp inP (xVar 5) (xVar 2))) (xB (xOp inP (xVar 5) (xVar 3)))) (xVar 5) [5]) xNil))))
@[irreducible] def F_with_pressed : List PD → Option PD := runP 3 3 X_with_pressed
-- least_lot: 0 web, 1 stream, 2 lot, 3 wider
@[irreducible] def X_least_lot_b1 : XS :=
    sSeq (sAsg (gName' 2) (wM (xVar 3)))
    (sAsg (gName' 3) (wM (xCB F_with_pressed (xCons (xVar 0) (xCons (xVar 1) (xCons (xVar 2) xNil))))))
@[irreducible] def X_least_lot : XS :=
    sSeq (sAsg (gName' 2) (wM (xTup xNil)))
    (sSeq (sAsg (gName' 3) (wM (xCB F_with_pressed (xCons (xVar 0) (xCons (xVar 1) (xCons (xVar 2) xNil))))))
    (sSeq (sWhile fuel (wMT (xB (xOp neP (xVar 3) (xVar 2)))) X_least_lot_b1)
    (sRet (wM (xIf (xB (xCB F_calms (xCons (xVar 0) (xCons (xVar 1) (xCons (xVar 2) xNil))))) (xVar 2) (xC .none))))))
@[irreducible] def F_least_lot : List PD → Option PD := runP 2 2 X_least_lot
-- is_calm: 0 web, 1 stream
@[irreducible] def X_is_calm : XS :=
    sRet (wM (xOp isntU (xCB F_least_lot (xCons (xVar 0) (xCons (xVar 1) xNil))) (xC .none)))
@[irreducible] def F_is_calm : List PD → Option PD := runP 2 0 X_is_calm
-- is_tie: 0 thing, 1 givers, 2 takers, 3 giver, 4 taker, 5 room
@[irreducible] def X_is_tie : XS :=
    sSeq (sIf (wMT (xTNot (xB (xCB F_is_tuple_of (xCons (xVar 0) (xCons (xC (.int 3)) (xCons (xC (.int 3)) xNil))))))) (sRet (wM (xC (.bool false)))) sNext)
    (sSeq (sAsg (gTup' 3 (gCons' (gName' 3) (gCons' (gName' 4) (gCons' (gName' 5) gNil')))) (wM (xVar 0)))
    (sRet (wM (xAnd (xCB F_is_number_to (xCons (xVar 3) (xCons (xOp subP (xVar 1) (xC (.int 1))) xNil))) (xAnd (xCB F_is_number_to (xCons (xVar 4) (xCons (xOp subP (xVar 2) (xC (.int 1))) xNil))) (xCB F_is_number_to (xCons (xVar 5) (xCons (xC (.int 1000000000000000)) xNil))))))))
@[irreducible] def F_is_tie : List PD → Option PD := runP 3 3 X_is_tie
-- is_fair: 0 thing, 1 ties, 2 givers*, 3 takers*, 4 tie
@[irreducible] def X_is_fair : XS :=
    sSeq (sIf (wMT (xTNot (xB (xCB F_is_tuple_of (xCons (xVar 0) (xCons (xC (.int 3)) (xCons (xC (.int 3)) xNil))))))) (sRet (wM (xC (.bool false)))) sNext)
    (sSeq (sAsg (gTup' 3 (gCons' (gName' 1) (gCons' (gName' 2) (gCons' (gName' 3) gNil')))) (wM (xVar 0)))
    (sSeq (sIf (wMT (xTOr (xTNot (xB (xCB F_is_tuple_of (xCons (xVar 1) (xCons (xC (.int 0)) (xCons (xC (.int 36)) xNil)))))) (xTOr (xTNot (xB (xCB F_is_tuple_of (xCons (xVar 2) (xCons (xC (.int 1)) (xCons (xC (.int 28)) xNil)))))) (xTNot (xB (xCB F_is_tuple_of (xCons (xVar 3) (xCons (xC (.int 1)) (xCons (xC (.int 28)) xNil))))))))) (sRet (wM (xC (.bool false)))) sNext)
    (sSeq (sIf (wMT (xTNot (xB (xCB (on1 allP) (xCons (xLc (xiE (xVar 1)) (gvName 4) xYes (xCB F_is_tie (xCons (xVar 4) (xCons (xCB (on1 lenP) (xCons (xVar 2) xNil)) (xCons (xCB (on1 lenP) (xCons (xVar 3) xNil)) xNil)))) [4]) xNil))))) (sRet (wM (xC (.bool false)))) sNext)
    (sRet (wM (xAnd (xCB F_are_seats (xCons (xVar 2) (xCons (xLc (xiE (xVar 1)) (gvName 4) xYes (xOp ixP (xVar 4) (xC (.int 0))) [4]) xNil))) (xCB F_are_seats (xCons (xVar 3) (xCons (xLc (xiE (xVar 1)) (gvName 4) xYes (xOp ixP (xVar 4) (xC (.int 1))) [4]) xNil)))))))))
@[irreducible] def F_is_fair : List PD → Option PD := runP 1 4 X_is_fair
-- joined: 0 web*, 1 one*, 2 other*, 3 better*, 4 stream, 5 house, 6 road, 7 begin, 8 end, 9 room
@[irreducible] def X_joined : XS :=
    sSeq (sAsg (gName' 3) (wM (xLc (xiA rngP (xCons (xCB (on1 lenP) (xCons (xOp ixP (xVar 0) (xC (.int 1))) xNil)) xNil)) (gvName 5) xYes (xIf (xB (xOp ltP (xCB F_liked (xCons (xVar 0) (xCons (xVar 5) (xCons (xVar 1) (xCons (xVar 2) xNil))))) (xC (.int 0)))) (xVar 2) (xVar 1)) [5])))
    (sSeq (sAsg (gName' 4) (wM (xCB (on1 tupP) (xCons (xLc (xiA enumP (xCons (xOp ixP (xVar 0) (xC (.int 0))) xNil)) (gvTup 2 (gvCons (gvName 6) (gvCons (gvTup 3 (gvCons (gvName 7) (gvCons (gvName 8) (gvCons (gvName 9) gvNil)))) gvNil))) xYes (xOp ixP (xOp ixP (xIf (xB (xOp isU (xVar 7) (xC .none))) (xVar 1) (xOp ixP (xVar 3) (xVar 7))) (xC (.int 0))) (xVar 6)) [6, 7, 8, 9]) xNil))))
    (sRet (wM (xTup (xCons (xVar 4) (xCons (xCB (on1 tupP) (xCons (xLc (xiE (xOp ixP (xVar 1) (xC (.int 1)))) (gvName 5) (xB (xOp inP (xVar 5) (xOp ixP (xVar 2) (xC (.int 1))))) (xVar 5) [5]) xNil)) xNil))))))
@[irreducible] def F_joined : List PD → Option PD := runP 3 7 X_joined
-- met: 0 web, 1 one*, 2 other*, 3 stream, 4 first, 5 second, 6 taken, 7 house
@[irreducible] def X_met : XS :=
    sSeq (sAsg (gName' 3) (wM (xCB (on1 tupP) (xCons (xLc (xiA zip3P (xCons (xOp ixP (xVar 1) (xC (.int 0))) (xCons (xOp ixP (xVar 2) (xC (.int 0))) (xCons (xOp ixP (xCB F_joined (xCons (xVar 0) (xCons (xVar 1) (xCons (xVar 2) xNil)))) (xC (.int 0))) xNil)))) (gvTup 3 (gvCons (gvName 4) (gvCons (gvName 5) (gvCons (gvName 6) gvNil)))) xYes (xOp subP (xOp addP (xVar 4) (xVar 5)) (xVar 6)) [4, 5, 6]) xNil))))
    (sRet (wM (xTup (xCons (xVar 3) (xCons (xCB (on1 tupP) (xCons (xLc (xiA rngP (xCons (xCB (on1 lenP) (xCons (xOp ixP (xVar 0) (xC (.int 1))) xNil)) xNil)) (gvName 7) (xTOr (xB (xOp inP (xVar 7) (xOp ixP (xVar 1) (xC (.int 1))))) (xB (xOp inP (xVar 7) (xOp ixP (xVar 2) (xC (.int 1)))))) (xVar 7) [7]) xNil)) xNil)))))
@[irreducible] def F_met : List PD → Option PD := runP 3 5 X_met
-- turned: 0 web, 1 roads, 2 gives, 3 takes, 4 begin, 5 end, 6 room
@[irreducible] def X_turned : XS :=
    sSeq (sAsg (gTup' 3 (gCons' (gName' 1) (gCons' (gName' 2) (gCons' (gName' 3) gNil')))) (wM (xVar 0)))
    (sRet (wM (xTup (xCons (xCB (on1 tupP) (xCons (xLc (xiE (xVar 1)) (gvTup 3 (gvCons (gvName 4) (gvCons (gvName 5) (gvCons (gvName 6) gvNil)))) xYes (xTup (xCons (xVar 5) (xCons (xVar 4) (xCons (xVar 6) xNil)))) [4, 5, 6]) xNil)) (xCons (xVar 3) (xCons (xVar 2) xNil))))))
@[irreducible] def F_turned : List PD → Option PD := runP 1 6 X_turned
section
variable [kk : KK]
def T__law_deck_h : TS :=
    tSeq (tAsg (tLc (iSeq K (tVar 0)) (gName 2) tYes (tCB rAbsQ (tCons (tVar 2) tNil)) [2]) (gName 1))
    (tRet (tLst (tCons (tLc (iSeq K (tVar 1)) (gName 2) (tTest (tOp oGe (tVar 2) (tOp oPow (tC (.int 10)) (tC (.int 18))))) (tVar 2) [2]) (tCons (tOp (rAddU K) (tVar 1) (tLst (tCons (tOp (rAddU K) (tCB (rLenQ K) (tCons (tVar 1) tNil)) (tC (.int 5))) tNil))) (tCons (tC (.int 0)) tNil)))))
theorem ss__law_deck_h : SS T__law_deck_h X__law_deck_h := by
  unfold X__law_deck_h T__law_deck_h
  exact ss_seq (ss_asg (sg_name (by decide)) (sw_M (SEF.se (sef_lc (si_seq se_var) sgv_name (by decide) st_yes (se_cb sc_abs (sa_cons se_var sa_nil))))))
    (ss_retO (swo_lst (swc_sub (swo_M (sef_lc (si_seq se_var) sgv_name (by decide) (st_test (se_op so_ge se_var (se_op so_pow se_int se_int))) se_var)) (swc_sub (swo_M (sef_op sof_cat se_var (SEF.se (sef_lst (sa_cons (se_op so_add (se_cb sc_len (sa_cons se_var sa_nil)) se_int) sa_nil))))) (swc_dat (sw_M se_int) swc_nil)))))
theorem ss_X__law_next_b1 : SS (tSeq (tAsg (tOp (rIx K) (tOp (rIx K) (tVar 0) (tC (.int 0))) (tC (.int 0))) (gName 2))
    (tSeq (tIfS (tTest (tOp (rGtU K) (tVar 2) (tC (.int 0)))) (tSeq (tAsg (tOp oDivW (tVar 2) (tVar 1)) (gSub (tOp (rIx K) (tVar 0) (tC (.int 0))) (tC (.int 0)) rSetL))
    (tRet (tOp oMod (tVar 2) (tVar 1)))) tNext)
    (tDrop (tBM K "list" rPopAt (tOp (rIx K) (tVar 0) (tC (.int 0))) (tCons (tC (.int 0)) tNil))))) X__law_next_b1 := by
  unfold X__law_next_b1
  exact ss_seq (ss_asg (sg_name (by decide)) (sw_V (se_op so_ix (se_op so_ix se_var se_int) se_int)))
    (ss_seq (ss_if (swt_M (st_test (se_op so_gtU se_var se_int))) (ss_seq (ss_setS se_int se_int (sw_M (se_op so_div se_var se_var)))
    (ss_ret (sw_M (se_op so_mod se_var se_var)))) ss_next)
    (ss_popS se_int se_int))
def T__law_next : TS :=
    tSeq (tWhile (tTest (tOp (rNeD K) (tOp (rIx K) (tVar 0) (tC (.int 0))) (tLst tNil))) (tSeq (tAsg (tOp (rIx K) (tOp (rIx K) (tVar 0) (tC (.int 0))) (tC (.int 0))) (gName 2))
    (tSeq (tIfS (tTest (tOp (rGtU K) (tVar 2) (tC (.int 0)))) (tSeq (tAsg (tOp oDivW (tVar 2) (tVar 1)) (gSub (tOp (rIx K) (tVar 0) (tC (.int 0))) (tC (.int 0)) rSetL))
    (tRet (tOp oMod (tVar 2) (tVar 1)))) tNext)
    (tDrop (tBM K "list" rPopAt (tOp (rIx K) (tVar 0) (tC (.int 0))) (tCons (tC (.int 0)) tNil))))))
    (tSeq (tAsg (tOp (rAddU K) (tOp (rIx K) (tVar 0) (tC (.int 2))) (tC (.int 1))) (gSub (tVar 0) (tC (.int 2)) rSetL))
    (tSeq (tAsg (tOp oMod (tOp (rIx K) (tOp (rIx K) (tVar 0) (tC (.int 1))) (tOp oMod (tOp (rIx K) (tVar 0) (tC (.int 2))) (tCB (rLenQ K) (tCons (tOp (rIx K) (tVar 0) (tC (.int 1))) tNil)))) (tC (.int 2147483647))) (gName 3))
    (tSeq (tAsg (tOp (rAddU K) (tOp (rAddU K) (tOp (rMulV K) (tVar 3) (tOp (rAddU K) (tC (.int 48271)) (tOp (rMulV K) (tC (.int 40692)) (tOp (rIx K) (tVar 0) (tC (.int 2)))))) (tOp (rMulV K) (tOp (rMulV K) (tC (.int 69621)) (tOp (rIx K) (tVar 0) (tC (.int 2)))) (tOp (rIx K) (tVar 0) (tC (.int 2))))) (tC (.int 13))) (gName 4))
    (tSeq (tAsg (tOp oMod (tVar 4) (tC (.int 2147483629))) (gName 4))
    (tRet (tOp oMod (tOp oDivW (tOp oMod (tOp (rMulV K) (tVar 4) (tVar 4)) (tC (.int 2147483587))) (tC (.int 16))) (tVar 1)))))))
theorem ss__law_next : SS T__law_next X__law_next := by
  unfold X__law_next T__law_next
  exact ss_seq (ss_while (swt_V (st_test (se_op so_ne (se_op so_ix se_var se_int) (SEF.se (sef_lst sa_nil))))) ss_X__law_next_b1)
    (ss_seq (ss_set se_int (sw_V (se_op so_add (se_op so_ix se_var se_int) se_int)))
    (ss_seq (ss_asg (sg_name (by decide)) (sw_V (se_op so_mod (se_op so_ix (se_op so_ix se_var se_int) (se_op so_mod (se_op so_ix se_var se_int) (se_cb sc_len (sa_cons (se_op so_ix se_var se_int) sa_nil)))) se_int)))
    (ss_seq (ss_asg (sg_name (by decide)) (sw_V (se_op so_add (se_op so_add (se_op so_mulV se_var (se_op so_add se_int (se_op so_mulV se_int (se_op so_ix se_var se_int)))) (se_op so_mulV (se_op so_mulV se_int (se_op so_ix se_var se_int)) (se_op so_ix se_var se_int))) se_int)))
    (ss_seq (ss_asg (sg_name (by decide)) (sw_M (se_op so_mod se_var se_int)))
    (ss_ret (sw_M (se_op so_mod (se_op so_div (se_op so_mod (se_op so_mulV se_var se_var) se_int) se_int) se_var)))))))
def T__law_one : TS :=
    tRet (tOp (rIx K) (tVar 1) (tCall (spW F__law_next) [] E0 (tCons (tVar 0) (tCons (tCB (rLenQ K) (tCons (tVar 1) tNil)) tNil))))
theorem ss__law_one : SS T__law_one X__law_one := by
  unfold X__law_one T__law_one
  exact ss_ret (sw_op so_ix (sw_M se_var) (sw_callK (swa_cons (sw_M (se_cb sc_len (sa_cons se_var sa_nil))) swa_nil)))
theorem ss_X__law_round_b_b1 : SS (tSeq (tAsg (tOp (rIx K) (tOp (rIx K) (tOp (rIx K) (tVar 1) (tC (.int 0))) (tOp (rIx K) (tVar 5) (tUn oNeg (tC (.int 1))))) (tC (.int 1))) (gName 7))
    (tSeq (tDrop (tBM K "list" rAppend (tVar 6) (tCons (tVar 7) tNil)))
    (tSeq (tAsg (tLc (iSeq K (tVar 3)) (gName 10) (tTest (tOp (rEqD K) (tOp (rIx K) (tOp (rIx K) (tOp (rIx K) (tVar 1) (tC (.int 0))) (tVar 10)) (tC (.int 0))) (tVar 7))) (tVar 10) [10]) (gName 8))
    (tSeq (tIfS (tTest (tOp (rEqD K) (tVar 8) (tLst tNil))) (tRet (tLst tNil)) tNext)
    (tDrop (tBM K "list" rAppend (tVar 5) (tCons (tCall (spW F__law_one) [] E0 (tCons (tVar 0) (tCons (tVar 8) tNil))) tNil))))))) X__law_round_b_b1 := by
  unfold X__law_round_b_b1
  exact ss_seq (ss_asg (sg_name (by decide)) (sw_V (se_op so_ix (se_op so_ix (se_op so_ix se_var se_int) (se_op so_ix se_var (se_un su_neg se_int))) se_int)))
    (ss_seq (ss_app (sw_M se_var))
    (ss_seq (ss_asg (sg_name (by decide)) (sw_M (SEF.se (sef_lc (si_seq se_var) sgv_name (by decide) (st_test (se_op so_eq (se_op so_ix (se_op so_ix (se_op so_ix se_var se_int) se_var) se_int) se_var)) se_var))))
    (ss_seq (ss_if (swt_M (st_test (se_op so_eq se_var (SEF.se (sef_lst sa_nil))))) (ss_fz (ss_fz (ss_retO (swo_lst swc_nil)))) ss_next)
    (ss_app (sw_callK (swa_cons (sw_M se_var) swa_nil))))))
def T__law_round_b : TS :=
    tSeq (tAsg (tLc (iRng1 (tCons (tCB (rLenQ K) (tCons (tOp (rIx K) (tVar 1) (tC (.int 0))) tNil)) tNil)) (gName 10) (tTest (tOp oLt (tOp (rIx K) (tVar 2) (tVar 10)) (tOp (rIx K) (tOp (rIx K) (tOp (rIx K) (tVar 1) (tC (.int 0))) (tVar 10)) (tC (.int 2))))) (tVar 10) [10]) (gName 3))
    (tSeq (tAsg (tLc (iSeq K (tVar 3)) (gName 10) (tTest (tOp oIsU (tOp (rIx K) (tOp (rIx K) (tOp (rIx K) (tVar 1) (tC (.int 0))) (tVar 10)) (tC (.int 0))) (tC .non))) (tVar 10) [10]) (gName 4))
    (tSeq (tIfS (tOr (tTest (tOp (rEqD K) (tVar 4) (tLst tNil))) (tTest (tOp (rEqD K) (tCall (spW F__law_next) [] E0 (tCons (tVar 0) (tCons (tC (.int 3)) tNil))) (tC (.int 0))))) (tAsg (tVar 3) (gName 4)) tNext)
    (tSeq (tIfS (tTest (tOp (rEqD K) (tVar 4) (tLst tNil))) (tRet (tLst tNil)) tNext)
    (tSeq (tAsg (tLst (tCons (tCall (spW F__law_one) [] E0 (tCons (tVar 0) (tCons (tVar 4) tNil))) tNil)) (gName 5))
    (tSeq (tAsg (tLst (tCons (tOp (rIx K) (tOp (rIx K) (tOp (rIx K) (tVar 1) (tC (.int 0))) (tOp (rIx K) (tVar 5) (tC (.int 0)))) (tC (.int 0))) tNil)) (gName 6))
    (tSeq (tWhile (tTest (tOp (rNotInU K) (tOp (rIx K) (tOp (rIx K) (tOp (rIx K) (tVar 1) (tC (.int 0))) (tOp (rIx K) (tVar 5) (tUn oNeg (tC (.int 1))))) (tC (.int 1))) (tOp (rAddU K) (tVar 6) (tLst (tCons (tC .non) tNil))))) (tSeq (tAsg (tOp (rIx K) (tOp (rIx K) (tOp (rIx K) (tVar 1) (tC (.int 0))) (tOp (rIx K) (tVar 5) (tUn oNeg (tC (.int 1))))) (tC (.int 1))) (gName 7))
    (tSeq (tDrop (tBM K "list" rAppend (tVar 6) (tCons (tVar 7) tNil)))
    (tSeq (tAsg (tLc (iSeq K (tVar 3)) (gName 10) (tTest (tOp (rEqD K) (tOp (rIx K) (tOp (rIx K) (tOp (rIx K) (tVar 1) (tC (.int 0))) (tVar 10)) (tC (.int 0))) (tVar 7))) (tVar 10) [10]) (gName 8))
    (tSeq (tIfS (tTest (tOp (rEqD K) (tVar 8) (tLst tNil))) (tRet (tLst tNil)) tNext)
    (tDrop (tBM K "list" rAppend (tVar 5) (tCons (tCall (spW F__law_one) [] E0 (tCons (tVar 0) (tCons (tVar 8) tNil))) tNil))))))))
    (tSeq (tAsg (tOp (rIx K) (tOp (rIx K) (tOp (rIx K) (tVar 1) (tC (.int 0))) (tOp (rIx K) (tVar 5) (tUn oNeg (tC (.int 1))))) (tC (.int 1))) (gName 9))
    (tSeq (tIfS (tAnd (tTest (tOp oIsU (tVar 9) (tC .non))) (tTest (tOp oNotU (tOp (rIx K) (tOp (rIx K) (tOp (rIx K) (tVar 1) (tC (.int 0))) (tOp (rIx K) (tVar 5) (tC (.int 0)))) (tC (.int 0))) (tC .non)))) (tRet (tLst tNil)) tNext)
    (tRet (tSl (rSlU K) (tVar 5) (tPart (tOp (rIx K) (tLst (tCons (tIdx K (tVar 6) (tCons (tVar 9) tNil)) (tCons (tC (.int 0)) tNil))) (tCB rIntQ (tCons (tOp oIsU (tVar 9) (tC .non)) tNil)))) tNoPart))))))))))
theorem ss__law_round_b : SS T__law_round_b X__law_round_b := by
  unfold X__law_round_b T__law_round_b
  exact ss_seq (ss_asg (sg_name (by decide)) (sw_M (SEF.se (sef_lc (si_rng (sa_cons (se_cb sc_len (sa_cons (se_op so_ix se_var se_int) sa_nil)) sa_nil)) sgv_name (by decide) (st_test (se_op so_lt (se_op so_ix se_var se_var) (se_op so_ix (se_op so_ix (se_op so_ix se_var se_int) se_var) se_int))) se_var))))
    (ss_seq (ss_asg (sg_name (by decide)) (sw_M (SEF.se (sef_lc (si_seq se_var) sgv_name (by decide) (st_test (se_op so_isU (se_op so_ix (se_op so_ix (se_op so_ix se_var se_int) se_var) se_int) se_non)) se_var))))
    (ss_seq (ss_if (swt_or (swt_M (st_test (se_op so_eq se_var (SEF.se (sef_lst sa_nil))))) (swt_test (sw_op so_eq (sw_callK (swa_cons (sw_M se_int) swa_nil)) (sw_M se_int)))) (ss_asg (sg_name (by decide)) (sw_M se_var)) ss_next)
    (ss_seq (ss_if (swt_M (st_test (se_op so_eq se_var (SEF.se (sef_lst sa_nil))))) (ss_retO (swo_lst swc_nil)) ss_next)
    (ss_seq (ss_own (by decide) (swo_lst (swc_dat (sw_callK (swa_cons (sw_M se_var) swa_nil)) swc_nil)))
    (ss_seq (ss_own (by decide) (swo_lst (swc_dat (sw_V (se_op so_ix (se_op so_ix (se_op so_ix se_var se_int) (se_op so_ix se_var se_int)) se_int)) swc_nil)))
    (ss_seq (ss_while (swt_V (st_test (se_op so_notin (se_op so_ix (se_op so_ix (se_op so_ix se_var se_int) (se_op so_ix se_var (se_un su_neg se_int))) se_int) (se_op so_add se_var (SEF.se (sef_lst (sa_cons se_non sa_nil))))))) ss_X__law_round_b_b1)
    (ss_fz (ss_fz (ss_seq (ss_asg (sg_name (by decide)) (sw_M (se_op so_ix (se_op so_ix (se_op so_ix se_var se_int) (se_op so_ix se_var (se_un su_neg se_int))) se_int)))
    (ss_seq (ss_if (swt_M (st_and (st_test (se_op so_isU se_var se_non)) (st_test (se_op so_isntU (se_op so_ix (se_op so_ix (se_op so_ix se_var se_int) (se_op so_ix se_var se_int)) se_int) se_non)))) (ss_retO (swo_lst swc_nil)) ss_next)
    (ss_retO (swo_M (sef_cut se_var (sp_some (se_op so_ix (SEF.se (sef_lst (sa_cons (se_idx se_var se_var) (sa_cons se_int sa_nil)))) (se_cb sc_int (sa_cons (se_op so_isU se_var se_non) sa_nil)))) sp_none)))))))))))))
theorem ss_X__law_stream_f_b1 : SS (tAsg (tOp (rAddU K) (tOp (rIx K) (tVar 3) (tVar 8)) (tVar 7)) (gSub (tVar 3) (tVar 8) rSetL)) X__law_stream_f_b1 := by
  unfold X__law_stream_f_b1
  exact ss_set se_var (sw_V (se_op so_add (se_op so_ix se_var se_var) se_var))
theorem ss_X__law_stream_f_b2 : SS (tSeq (tAsg (tCall (spV F__law_round_b) [] E0 (tCons (tVar 0) (tCons (tVar 1) (tCons (tVar 3) tNil)))) (gName 5))
    (tIfS (tTest (tOp (rNeD K) (tVar 5) (tLst tNil))) (tSeq (tAsg (tCB (rMinV K) (tCons (tLc (iSeq K (tVar 5)) (gName 8) tYes (tOp oSub (tOp (rIx K) (tOp (rIx K) (tOp (rIx K) (tVar 1) (tC (.int 0))) (tVar 8)) (tC (.int 2))) (tOp (rIx K) (tVar 3) (tVar 8))) [8]) tNil)) (gName 6))
    (tSeq (tAsg (tCall (spW F__law_one) [] E0 (tCons (tVar 0) (tCons (tLst (tCons (tC (.int 1)) (tCons (tVar 6) (tCons (tOp (rAddU K) (tC (.int 1)) (tCall (spW F__law_next) [] E0 (tCons (tVar 0) (tCons (tVar 6) tNil)))) tNil)))) tNil))) (gName 7))
    (tFor (iSeq K (tVar 5)) (gName 8) (tAsg (tOp (rAddU K) (tOp (rIx K) (tVar 3) (tVar 8)) (tVar 7)) (gSub (tVar 3) (tVar 8) rSetL))))) tNext)) X__law_stream_f_b2 := by
  unfold X__law_stream_f_b2
  exact ss_seq (ss_own (by decide) (swo_callV (by decide) (sw_M se_var)))
    (ss_fz (ss_if (swt_M (st_test (se_op so_ne se_var (SEF.se (sef_lst sa_nil))))) (ss_seq (ss_asg (sg_name (by decide)) (sw_V (se_cb sc_minV (sa_cons (SEF.se (sef_lc (si_seq se_var) sgv_name (by decide) st_yes (se_op so_sub (se_op so_ix (se_op so_ix (se_op so_ix se_var se_int) se_var) se_int) (se_op so_ix se_var se_var)))) sa_nil))))
    (ss_seq (ss_asg (sg_name (by decide)) (sw_callK (swa_cons (sw_lst (swa_cons (sw_M se_int) (swa_cons (sw_M se_var) (swa_cons (sw_op so_add (sw_M se_int) (sw_callK (swa_cons (sw_M se_var) swa_nil))) swa_nil)))) swa_nil)))
    (ss_for (swi_seq (sw_M se_var)) (sg_name (by decide)) ss_X__law_stream_f_b1))) ss_next))
def T__law_stream_f : TS :=
    tSeq (tAsg (tOp (rMulV K) (tLst (tCons (tC (.int 0)) tNil)) (tCB (rLenQ K) (tCons (tOp (rIx K) (tVar 1) (tC (.int 0))) tNil))) (gName 3))
    (tSeq (tFor (iRng1 (tCons (tVar 2) tNil)) (gName 4) (tSeq (tAsg (tCall (spV F__law_round_b) [] E0 (tCons (tVar 0) (tCons (tVar 1) (tCons (tVar 3) tNil)))) (gName 5))
    (tIfS (tTest (tOp (rNeD K) (tVar 5) (tLst tNil))) (tSeq (tAsg (tCB (rMinV K) (tCons (tLc (iSeq K (tVar 5)) (gName 8) tYes (tOp oSub (tOp (rIx K) (tOp (rIx K) (tOp (rIx K) (tVar 1) (tC (.int 0))) (tVar 8)) (tC (.int 2))) (tOp (rIx K) (tVar 3) (tVar 8))) [8]) tNil)) (gName 6))
    (tSeq (tAsg (tCall (spW F__law_one) [] E0 (tCons (tVar 0) (tCons (tLst (tCons (tC (.int 1)) (tCons (tVar 6) (tCons (tOp (rAddU K) (tC (.int 1)) (tCall (spW F__law_next) [] E0 (tCons (tVar 0) (tCons (tVar 6) tNil)))) tNil)))) tNil))) (gName 7))
    (tFor (iSeq K (tVar 5)) (gName 8) (tAsg (tOp (rAddU K) (tOp (rIx K) (tVar 3) (tVar 8)) (tVar 7)) (gSub (tVar 3) (tVar 8) rSetL))))) tNext)))
    (tRet (tCB (rTupF K) (tCons (tVar 3) tNil))))
theorem ss__law_stream_f : SS T__law_stream_f X__law_stream_f := by
  unfold X__law_stream_f T__law_stream_f
  exact ss_seq (ss_own (by decide) (swo_M (sef_op sof_repV (SEF.se (sef_lst (sa_cons se_int sa_nil))) (se_cb sc_len (sa_cons (se_op so_ix se_var se_int) sa_nil)))))
    (ss_seq (ss_for (swi_rng (swa_cons (sw_M se_var) swa_nil)) (sg_name (by decide)) ss_X__law_stream_f_b2)
    (ss_fz (ss_ret (sw_M (se_cb sc_tup (sa_cons se_var sa_nil))))))
theorem ss_X__law_order_b1 : SS (tDrop (tBM K "list" rInsQ (tVar 2) (tCons (tCall (spW F__law_next) [] E0 (tCons (tVar 0) (tCons (tOp (rAddU K) (tCB (rLenQ K) (tCons (tVar 2) tNil)) (tC (.int 1))) tNil))) (tCons (tVar 3) tNil)))) X__law_order_b1 := by
  unfold X__law_order_b1
  exact ss_ins (swa_cons (sw_callK (swa_cons (sw_V (se_op so_add (se_cb sc_len (sa_cons se_var sa_nil)) se_int)) swa_nil)) (swa_cons (sw_M se_var) swa_nil))
def T__law_order : TS :=
    tSeq (tAsg (tLst tNil) (gName 2))
    (tSeq (tFor (iSeq K (tVar 1)) (gName 3) (tDrop (tBM K "list" rInsQ (tVar 2) (tCons (tCall (spW F__law_next) [] E0 (tCons (tVar 0) (tCons (tOp (rAddU K) (tCB (rLenQ K) (tCons (tVar 2) tNil)) (tC (.int 1))) tNil))) (tCons (tVar 3) tNil)))))
    (tRet (tCB (rTupF K) (tCons (tVar 2) tNil))))
theorem ss__law_order : SS T__law_order X__law_order := by
  unfold X__law_order T__law_order
  exact ss_seq (ss_own (by decide) (swo_lst swc_nil))
    (ss_seq (ss_for (swi_seq (sw_M se_var)) (sg_name (by decide)) ss_X__law_order_b1)
    (ss_fz (ss_ret (sw_M (se_cb sc_tup (sa_cons se_var sa_nil))))))
def T__law_room : TS :=
    tSeq (tAsg (tCall (spW F__law_one) [] E0 (tCons (tVar 0) (tCons (tLst (tCons (tC (.int 0)) (tCons (tC (.int 1)) (tCons (tC (.int 1)) (tCons (tC (.int 2)) (tCons (tC (.int 3)) (tCons (tC (.int 5)) tNil))))))) tNil))) (gName 2))
    (tSeq (tAsg (tCall (spW F__law_one) [] E0 (tCons (tVar 0) (tCons (tLst (tCons (tC (.int 1)) (tCons (tC (.int 2)) (tCons (tOp oPow (tC (.int 10)) (tC (.int 12))) (tCons (tOp oSub (tOp oPow (tC (.int 10)) (tC (.int 12))) (tCall (spW F__law_next) [] E0 (tCons (tVar 0) (tCons (tC (.int 3)) tNil)))) (tCons (tCall (spW F__law_next) [] E0 (tCons (tVar 0) (tCons (tOp oPow (tC (.int 10)) (tC (.int 12))) tNil))) tNil)))))) tNil))) (gName 3))
    (tRet (tOp (rIx K) (tLst (tCons (tVar 2) (tCons (tVar 3) tNil))) (tCB rIntQ (tCons (tVar 1) tNil)))))
theorem ss__law_room : SS T__law_room X__law_room := by
  unfold X__law_room T__law_room
  exact ss_seq (ss_asg (sg_name (by decide)) (sw_callK (swa_cons (sw_M (SEF.se (sef_lst (sa_cons se_int (sa_cons se_int (sa_cons se_int (sa_cons se_int (sa_cons se_int (sa_cons se_int sa_nil))))))))) swa_nil)))
    (ss_seq (ss_asg (sg_name (by decide)) (sw_callK (swa_cons (sw_lst (swa_cons (sw_M se_int) (swa_cons (sw_M se_int) (swa_cons (sw_M (se_op so_pow se_int se_int)) (swa_cons (sw_op so_sub (sw_M (se_op so_pow se_int se_int)) (sw_callK (swa_cons (sw_M se_int) swa_nil))) (swa_cons (sw_callK (swa_cons (sw_M (se_op so_pow se_int se_int)) swa_nil)) swa_nil)))))) swa_nil)))
    (ss_ret (sw_M (se_op so_ix (SEF.se (sef_lst (sa_cons se_var (sa_cons se_var sa_nil)))) (se_cb sc_int (sa_cons se_var sa_nil))))))
def T__law_road : TS :=
    tSeq (tAsg (tCall (spW F__law_next) [] E0 (tCons (tVar 0) (tCons (tOp (rAddU K) (tVar 1) (tC (.int 1))) tNil))) (gName 3))
    (tSeq (tAsg (tOp oMod (tOp (rAddU K) (tOp (rAddU K) (tVar 3) (tC (.int 1))) (tCall (spW F__law_next) [] E0 (tCons (tVar 0) (tCons (tVar 1) tNil)))) (tOp (rAddU K) (tVar 1) (tC (.int 1)))) (gName 4))
    (tSeq (tAsg (tLc (iSeq K (tTupF (tCons (tVar 3) (tCons (tVar 4) tNil)))) (gName 7) tYes (tOp (rIx K) (tLst (tCons (tC .non) (tCons (tOp oSub (tVar 7) (tC (.int 1))) tNil))) (tCB rIntQ (tCons (tOp (rGtU K) (tVar 7) (tC (.int 0))) tNil))) [7]) (gTU K 2 (gCons (gName 5) (gCons (gName 6) gNil))))
    (tRet (tTupF (tCons (tVar 5) (tCons (tVar 6) (tCons (tCall (spW F__law_room) [] E0 (tCons (tVar 0) (tCons (tVar 2) tNil))) tNil)))))))
theorem ss__law_road : SS T__law_road X__law_road := by
  unfold X__law_road T__law_road
  exact ss_seq (ss_asg (sg_name (by decide)) (sw_callK (swa_cons (sw_M (se_op so_add se_var se_int)) swa_nil)))
    (ss_seq (ss_asg (sg_name (by decide)) (sw_op so_mod (sw_op so_add (sw_M (se_op so_add se_var se_int)) (sw_callK (swa_cons (sw_M se_var) swa_nil))) (sw_M (se_op so_add se_var se_int))))
    (ss_seq (ss_asg (sg_tup (sg_cons (sg_name (by decide)) (sg_cons (sg_name (by decide)) sg_nil))) (sw_M (SEF.se (sef_lc (si_seq (se_tup (sa_cons se_var (sa_cons se_var sa_nil)))) sgv_name (by decide) st_yes (se_op so_ix (SEF.se (sef_lst (sa_cons se_non (sa_cons (se_op so_sub se_var se_int) sa_nil)))) (se_cb sc_int (sa_cons (se_op so_gtU se_var se_int) sa_nil)))))))
    (ss_ret (sw_tup (swa_cons (sw_M se_var) (swa_cons (sw_M se_var) (swa_cons (sw_callK (swa_cons (sw_M se_var) swa_nil)) swa_nil)))))))
theorem ss_X__law_web_b1 : SS (tDrop (tBM K "list" rAppend (tVar 8) (tCons (tCall (spW F__law_order) [] E0 (tCons (tVar 0) (tCons (tLc (iRng1 (tCons (tCB (rLenQ K) (tCons (tVar 5) tNil)) tNil)) (gName 10) (tTest (tOp (rEqD K) (tOp (rIx K) (tOp (rIx K) (tVar 5) (tVar 10)) (tVar 7)) (tVar 9))) (tVar 10) [10]) tNil))) tNil))) X__law_web_b1 := by
  unfold X__law_web_b1
  exact ss_app (sw_callK (swa_cons (sw_M (SEF.se (sef_lc (si_rng (sa_cons (se_cb sc_len (sa_cons se_var sa_nil)) sa_nil)) sgv_name (by decide) (st_test (se_op so_eq (se_op so_ix (se_op so_ix se_var se_var) se_var) se_var)) se_var))) swa_nil))
theorem ss_X__law_web_b2 : SS (tSeq (tAsg (tLst tNil) (gName 8))
    (tSeq (tFor (iRng1 (tCons (tVar 4) tNil)) (gName 9) (tDrop (tBM K "list" rAppend (tVar 8) (tCons (tCall (spW F__law_order) [] E0 (tCons (tVar 0) (tCons (tLc (iRng1 (tCons (tCB (rLenQ K) (tCons (tVar 5) tNil)) tNil)) (gName 10) (tTest (tOp (rEqD K) (tOp (rIx K) (tOp (rIx K) (tVar 5) (tVar 10)) (tVar 7)) (tVar 9))) (tVar 10) [10]) tNil))) tNil))))
    (tDrop (tBM K "list" rAppend (tVar 6) (tCons (tCB (rTupF K) (tCons (tVar 8) tNil)) tNil))))) X__law_web_b2 := by
  unfold X__law_web_b2
  exact ss_seq (ss_own (by decide) (swo_lst swc_nil))
    (ss_seq (ss_for (swi_rng (swa_cons (sw_M se_var) swa_nil)) (sg_name (by decide)) ss_X__law_web_b1)
    (ss_fz (ss_app (sw_M (se_cb sc_tup (sa_cons se_var sa_nil))))))
def T__law_web : TS :=
    tSeq (tAsg (tOp (rAddU K) (tC (.int 1)) (tCall (spW F__law_next) [] E0 (tCons (tVar 0) (tCons (tVar 1) tNil)))) (gName 4))
    (tSeq (tAsg (tLc (iRng1 (tCons (tOp (rAddU K) (tC (.int 1)) (tCall (spW F__law_next) [] E0 (tCons (tVar 0) (tCons (tVar 2) tNil)))) tNil)) (gName 10) tYes (tCall (spW F__law_road) [] E0 (tCons (tVar 0) (tCons (tVar 4) (tCons (tVar 3) tNil)))) [10]) (gName 5))
    (tSeq (tAsg (tLst tNil) (gName 6))
    (tSeq (tFor (iSeq K (tTupF (tCons (tC (.int 0)) (tCons (tC (.int 1)) tNil)))) (gName 7) (tSeq (tAsg (tLst tNil) (gName 8))
    (tSeq (tFor (iRng1 (tCons (tVar 4) tNil)) (gName 9) (tDrop (tBM K "list" rAppend (tVar 8) (tCons (tCall (spW F__law_order) [] E0 (tCons (tVar 0) (tCons (tLc (iRng1 (tCons (tCB (rLenQ K) (tCons (tVar 5) tNil)) tNil)) (gName 10) (tTest (tOp (rEqD K) (tOp (rIx K) (tOp (rIx K) (tVar 5) (tVar 10)) (tVar 7)) (tVar 9))) (tVar 10) [10]) tNil))) tNil))))
    (tDrop (tBM K "list" rAppend (tVar 6) (tCons (tCB (rTupF K) (tCons (tVar 8) tNil)) tNil))))))
    (tRet (tTupF (tCons (tCB (rTupF K) (tCons (tVar 5) tNil)) (tCons (tOp (rIx K) (tVar 6) (tC (.int 0))) (tCons (tOp (rIx K) (tVar 6) (tC (.int 1))) tNil))))))))
theorem ss__law_web : SS T__law_web X__law_web := by
  unfold X__law_web T__law_web
  exact ss_seq (ss_asg (sg_name (by decide)) (sw_op so_add (sw_M se_int) (sw_callK (swa_cons (sw_M se_var) swa_nil))))
    (ss_seq (ss_asg (sg_name (by decide)) (sw_fz (swo_lc (swi_rng (swa_cons (sw_op so_add (sw_M se_int) (sw_callK (swa_cons (sw_M se_var) swa_nil))) swa_nil)) (sg_name (by decide)) (by decide) (by decide) (swt_M st_yes) (sw_callK (swa_cons (sw_M se_var) (swa_cons (sw_M se_var) swa_nil))))))
    (ss_seq (ss_own (by decide) (swo_lst swc_nil))
    (ss_seq (ss_for (swi_seq (sw_M (se_tup (sa_cons se_int (sa_cons se_int sa_nil))))) (sg_name (by decide)) ss_X__law_web_b2)
    (ss_fz (ss_ret (sw_M (se_tup (sa_cons (se_cb sc_tup (sa_cons se_var sa_nil)) (sa_cons (se_op so_ix se_var se_int) (sa_cons (se_op so_ix se_var se_int) sa_nil))))))))))
def T_in_doors : TS :=
    tRet (tCB (rTupF K) (tCons (tLc (iEnumU K (tCons (tOp (rIx K) (tVar 0) (tC (.int 0))) tNil)) (gTU K 2 (gCons (gName 1) (gCons (gName 2) gNil))) (tTest (tOp oIsU (tOp (rIx K) (tVar 2) (tC (.int 0))) (tC .non))) (tVar 1) [1, 2]) tNil))
theorem ss_in_doors : SS T_in_doors X_in_doors := by
  unfold X_in_doors T_in_doors
  exact ss_ret (sw_M (se_cb sc_tup (sa_cons (SEF.se (sef_lc (si_enum (sa_cons (se_op so_ix se_var se_int) sa_nil)) (sgv_tup (sgv_cons sgv_name (sgv_cons sgv_name sgv_nil))) (by decide) (st_test (se_op so_isU (se_op so_ix se_var se_int) se_non)) se_var)) sa_nil)))
def T_first_bearing : TS :=
    tSeq (tAsg (tLc (iSeq K (tOp (rAddU K) (tCB (rListQ K) (tCons (tCall (spF F_in_doors) [] E0 (tCons (tVar 0) tNil)) tNil)) (tLstRg (tRg1 (tCB (rLenQ K) (tCons (tVar 1) tNil)))))) (gName 3) (tTest (tOp (rGtU K) (tOp (rIx K) (tVar 1) (tVar 3)) (tC (.int 0)))) (tVar 3) [3]) (gName 2))
    (tRet (tIf (tTest (tOp (rGtU K) (tCB (rLenQ K) (tCons (tVar 2) tNil)) (tC (.int 0)))) (tOp (rIx K) (tVar 2) (tC (.int 0))) (tC .non)))
theorem ss_first_bearing : SS T_first_bearing X_first_bearing := by
  unfold X_first_bearing T_first_bearing
  exact ss_seq (ss_asg (sg_name (by decide)) (sw_M (SEF.se (sef_lc (si_seq (se_op so_add (SEF.se (sef_list (se_call (sa_cons se_var sa_nil)))) (SEF.se (sef_rgL (se_cb sc_len (sa_cons se_var sa_nil)))))) sgv_name (by decide) (st_test (se_op so_gtU (se_op so_ix se_var se_var) se_int)) se_var))))
    (ss_ret (sw_M (se_if (st_test (se_op so_gtU (se_cb sc_len (sa_cons se_var sa_nil)) se_int)) (se_op so_ix se_var se_int) se_non)))
def T_from_least : TS :=
    tSeq (tAsg (tIdx K (tVar 0) (tCons (tCB (rMinV K) (tCons (tVar 0) tNil)) tNil)) (gName 1))
    (tRet (tCB (rTupF K) (tCons (tOp (rAddU K) (tSl (rSlU K) (tVar 0) (tPart (tVar 1)) tNoPart) (tSl (rSlU K) (tVar 0) tNoPart (tPart (tVar 1)))) tNil)))
theorem ss_from_least : SS T_from_least X_from_least := by
  unfold X_from_least T_from_least
  exact ss_seq (ss_asg (sg_name (by decide)) (sw_M (se_idx se_var (se_cb sc_minV (sa_cons se_var sa_nil)))))
    (ss_ret (sw_M (se_cb sc_tup (sa_cons (se_op so_add (se_sl se_var (sp_some se_var) sp_none) (se_sl se_var sp_none (sp_some se_var))) sa_nil))))
theorem ss_X_way_or_ring_b1 : SS (tSeq (tAsg (tLc (iSeq K (tVar 6)) (gName 9) tYes (tOp (rIx K) (tOp (rIx K) (tVar 3) (tVar 9)) (tC (.int 0))) [9]) (gName 8))
    (tSeq (tIfS (tTest (tOp (rInU K) (tVar 7) (tVar 8))) (tRet (tCall (spF F_from_least) [] E0 (tCons (tSl (rSlU K) (tVar 6) (tPart (tIdx K (tVar 8) (tCons (tVar 7) tNil))) tNoPart) tNil))) tNext)
    (tSeq (tDrop (tBM K "list" rAppend (tVar 6) (tCons (tOp (rIx K) (tLc (iSeq K (tOp (rIx K) (tVar 4) (tVar 7))) (gName 9) (tTest (tOp (rGtU K) (tOp (rIx K) (tVar 1) (tVar 9)) (tC (.int 0)))) (tVar 9) [9]) (tC (.int 0))) tNil)))
    (tAsg (tOp (rIx K) (tOp (rIx K) (tVar 3) (tOp (rIx K) (tVar 6) (tUn oNeg (tC (.int 1))))) (tC (.int 1))) (gName 7))))) X_way_or_ring_b1 := by
  unfold X_way_or_ring_b1
  exact ss_seq (ss_own (by decide) (swo_V (sef_lc (si_seq se_var) sgv_name (by decide) st_yes (se_op so_ix (se_op so_ix se_var se_var) se_int))))
    (ss_fz (ss_seq (ss_if (swt_M (st_test (se_op so_in se_var se_var))) (ss_fz (ss_ret (sw_M (se_call (sa_cons (se_sl se_var (sp_some (se_idx se_var se_var)) sp_none) sa_nil))))) ss_next)
    (ss_seq (ss_app (sw_M (se_op so_ix (SEF.se (sef_lc (si_seq (se_op so_ix se_var se_var)) sgv_name (by decide) (st_test (se_op so_gtU (se_op so_ix se_var se_var) se_int)) se_var)) se_int)))
    (ss_asg (sg_name (by decide)) (sw_V (se_op so_ix (se_op so_ix se_var (se_op so_ix se_var (se_un su_neg se_int))) se_int))))))
def T_way_or_ring : TS :=
    tSeq (tAsg (tVar 0) (gTU K 3 (gCons (gName 3) (gCons (gName 4) (gCons (gName 5) gNil)))))
    (tSeq (tAsg (tLst (tCons (tVar 2) tNil)) (gName 6))
    (tSeq (tAsg (tOp (rIx K) (tOp (rIx K) (tVar 3) (tVar 2)) (tC (.int 1))) (gName 7))
    (tSeq (tWhile (tTest (tOp oNotU (tVar 7) (tC .non))) (tSeq (tAsg (tLc (iSeq K (tVar 6)) (gName 9) tYes (tOp (rIx K) (tOp (rIx K) (tVar 3) (tVar 9)) (tC (.int 0))) [9]) (gName 8))
    (tSeq (tIfS (tTest (tOp (rInU K) (tVar 7) (tVar 8))) (tRet (tCall (spF F_from_least) [] E0 (tCons (tSl (rSlU K) (tVar 6) (tPart (tIdx K (tVar 8) (tCons (tVar 7) tNil))) tNoPart) tNil))) tNext)
    (tSeq (tDrop (tBM K "list" rAppend (tVar 6) (tCons (tOp (rIx K) (tLc (iSeq K (tOp (rIx K) (tVar 4) (tVar 7))) (gName 9) (tTest (tOp (rGtU K) (tOp (rIx K) (tVar 1) (tVar 9)) (tC (.int 0)))) (tVar 9) [9]) (tC (.int 0))) tNil)))
    (tAsg (tOp (rIx K) (tOp (rIx K) (tVar 3) (tOp (rIx K) (tVar 6) (tUn oNeg (tC (.int 1))))) (tC (.int 1))) (gName 7))))))
    (tRet (tCB (rTupF K) (tCons (tVar 6) tNil))))))
theorem ss_way_or_ring : SS T_way_or_ring X_way_or_ring := by
  unfold X_way_or_ring T_way_or_ring
  exact ss_seq (ss_asg (sg_tup (sg_cons (sg_name (by decide)) (sg_cons (sg_name (by decide)) (sg_cons (sg_name (by decide)) sg_nil)))) (sw_M se_var))
    (ss_seq (ss_own (by decide) (swo_lst (swc_dat (sw_M se_var) swc_nil)))
    (ss_seq (ss_asg (sg_name (by decide)) (sw_M (se_op so_ix (se_op so_ix se_var se_var) se_int)))
    (ss_seq (ss_while (swt_M (st_test (se_op so_isntU se_var se_non))) ss_X_way_or_ring_b1)
    (ss_fz (ss_ret (sw_M (se_cb sc_tup (sa_cons se_var sa_nil))))))))
theorem ss_X_bundle_b1 : SS (tAugS (tVar 2) (tVar 7) (tVar 6) (rIxL K) (ipI (fun i j => i - j)) rSetL) X_bundle_b1 := by
  unfold X_bundle_b1
  exact ss_aug se_var se_var
theorem ss_X_bundle_b2 : SS (tSeq (tAsg (tCall (spF F_way_or_ring) [] E0 (tCons (tVar 0) (tCons (tVar 2) (tCons (tVar 4) tNil)))) (gName 5))
    (tSeq (tAsg (tCB (rMinV K) (tCons (tLc (iSeq K (tVar 5)) (gName 7) tYes (tOp (rIx K) (tVar 2) (tVar 7)) [7]) tNil)) (gName 6))
    (tSeq (tDrop (tBM K "list" rAppend (tVar 3) (tCons (tTupF (tCons (tVar 5) (tCons (tVar 6) tNil))) tNil)))
    (tSeq (tFor (iSeq K (tVar 5)) (gName 7) (tAugS (tVar 2) (tVar 7) (tVar 6) (rIxL K) (ipI (fun i j => i - j)) rSetL))
    (tAsg (tCall (spF F_first_bearing) [] E0 (tCons (tVar 0) (tCons (tVar 2) tNil))) (gName 4)))))) X_bundle_b2 := by
  unfold X_bundle_b2
  exact ss_seq (ss_asg (sg_name (by decide)) (sw_V (se_call (sa_cons se_var (sa_cons se_var (sa_cons se_var sa_nil))))))
    (ss_seq (ss_asg (sg_name (by decide)) (sw_V (se_cb sc_minV (sa_cons (SEF.se (sef_lc (si_seq se_var) sgv_name (by decide) st_yes (se_op so_ix se_var se_var))) sa_nil))))
    (ss_seq (ss_app (sw_M (se_tup (sa_cons se_var (sa_cons se_var sa_nil)))))
    (ss_seq (ss_for (swi_seq (sw_M se_var)) (sg_name (by decide)) ss_X_bundle_b1)
    (ss_asg (sg_name (by decide)) (sw_V (se_call (sa_cons se_var (sa_cons se_var sa_nil))))))))
def T_bundle : TS :=
    tSeq (tAsg (tCB (rListQ K) (tCons (tVar 1) tNil)) (gName 2))
    (tSeq (tAsg (tLst tNil) (gName 3))
    (tSeq (tAsg (tCall (spF F_first_bearing) [] E0 (tCons (tVar 0) (tCons (tVar 2) tNil))) (gName 4))
    (tSeq (tWhile (tTest (tOp oNotU (tVar 4) (tC .non))) (tSeq (tAsg (tCall (spF F_way_or_ring) [] E0 (tCons (tVar 0) (tCons (tVar 2) (tCons (tVar 4) tNil)))) (gName 5))
    (tSeq (tAsg (tCB (rMinV K) (tCons (tLc (iSeq K (tVar 5)) (gName 7) tYes (tOp (rIx K) (tVar 2) (tVar 7)) [7]) tNil)) (gName 6))
    (tSeq (tDrop (tBM K "list" rAppend (tVar 3) (tCons (tTupF (tCons (tVar 5) (tCons (tVar 6) tNil))) tNil)))
    (tSeq (tFor (iSeq K (tVar 5)) (gName 7) (tAugS (tVar 2) (tVar 7) (tVar 6) (rIxL K) (ipI (fun i j => i - j)) rSetL))
    (tAsg (tCall (spF F_first_bearing) [] E0 (tCons (tVar 0) (tCons (tVar 2) tNil))) (gName 4)))))))
    (tRet (tCB (rTupF K) (tCons (tVar 3) tNil))))))
theorem ss_bundle : SS T_bundle X_bundle := by
  unfold X_bundle T_bundle
  exact ss_seq (ss_own (by decide) (swo_M (sef_list se_var)))
    (ss_seq (ss_own (by decide) (swo_lst swc_nil))
    (ss_seq (ss_asg (sg_name (by decide)) (sw_V (se_call (sa_cons se_var (sa_cons se_var sa_nil)))))
    (ss_seq (ss_while (swt_M (st_test (se_op so_isntU se_var se_non))) ss_X_bundle_b2)
    (ss_fz (ss_fz (ss_ret (sw_M (se_cb sc_tup (sa_cons se_var sa_nil)))))))))
def T_borne : TS :=
    tRet (tCB (rSum K) (tCons (tLc (iSeq K (tVar 1)) (gName 2) tYes (tOp (rIx K) (tVar 0) (tVar 2)) [2]) tNil))
theorem ss_borne : SS T_borne X_borne := by
  unfold X_borne T_borne
  exact ss_ret (sw_M (se_cb sc_sum (sa_cons (SEF.se (sef_lc (si_seq se_var) sgv_name (by decide) st_yes (se_op so_ix se_var se_var))) sa_nil)))
def T_is_number : TS :=
    tRet (tAndV (tCB (rIsi K) (tCons (tVar 0) (tCons (tC (.ty "int")) tNil))) (tNotV (tCB (rIsi K) (tCons (tVar 0) (tCons (tC (.ty "bool")) tNil)))))
theorem ss_is_number : SS T_is_number X_is_number := by
  unfold X_is_number T_is_number
  exact ss_ret (sw_M (se_and (se_isi .int rfl se_var) (se_not (se_isi .bool rfl se_var))))
def T_is_tuple_of : TS :=
    tRet (tAndV (tCB (rIsi K) (tCons (tVar 0) (tCons (tC (.ty "tuple")) tNil))) (tChain oLe oLe (tVar 1) (tCB (rLenQ K) (tCons (tVar 0) tNil)) (tVar 2)))
theorem ss_is_tuple_of : SS T_is_tuple_of X_is_tuple_of := by
  unfold X_is_tuple_of T_is_tuple_of
  exact ss_ret (sw_M (se_and (se_isi .tuple rfl se_var) (se_chain so_le so_le se_var (se_cb sc_len (sa_cons se_var sa_nil)) se_var)))
def T_is_form : TS :=
    tRet (tAndV (tCall (spF F_is_tuple_of) [] E0 (tCons (tVar 0) (tCons (tVar 1) (tCons (tVar 1) tNil)))) (tCB (rAll K) (tCons (tLc (iSeq K (tVar 0)) (gName 2) tYes (tAndV (tCall (spF F_is_number) [] E0 (tCons (tVar 2) tNil)) (tOp oGe (tVar 2) (tC (.int 0)))) [2]) tNil)))
theorem ss_is_form : SS T_is_form X_is_form := by
  unfold X_is_form T_is_form
  exact ss_ret (sw_M (se_and (se_call (sa_cons se_var (sa_cons se_var (sa_cons se_var sa_nil)))) (se_cb sc_all (sa_cons (SEF.se (sef_lc (si_seq se_var) sgv_name (by decide) st_yes (se_and (se_call (sa_cons se_var sa_nil)) (se_op so_ge se_var se_int)))) sa_nil))))
theorem ss_X_streamfault_b1 : SS (tIfS (tTest (tOp (rGtU K) (tVar 6) (tOp (rIx K) (tOp (rIx K) (tVar 2) (tVar 5)) (tC (.int 2))))) (tRet (tTupF (tCons (tC (.str "room")) (tCons (tVar 5) tNil)))) tNext) X_streamfault_b1 := by
  unfold X_streamfault_b1
  exact ss_if (swt_M (st_test (se_op so_gtU se_var (se_op so_ix (se_op so_ix se_var se_var) se_int)))) (ss_ret (sw_M (se_tup (sa_cons se_str (sa_cons se_var sa_nil))))) ss_next
theorem ss_X_streamfault_b2 : SS (tIfS (tTest (tOp (rNeD K) (tCall (spF F_borne) [] E0 (tCons (tVar 1) (tCons (tOp (rIx K) (tVar 4) (tVar 7)) tNil))) (tCall (spF F_borne) [] E0 (tCons (tVar 1) (tCons (tVar 8) tNil))))) (tRet (tTupF (tCons (tC (.str "house")) (tCons (tVar 7) tNil)))) tNext) X_streamfault_b2 := by
  unfold X_streamfault_b2
  exact ss_if (swt_M (st_test (se_op so_ne (se_call (sa_cons se_var (sa_cons (se_op so_ix se_var se_var) sa_nil))) (se_call (sa_cons se_var (sa_cons se_var sa_nil)))))) (ss_ret (sw_M (se_tup (sa_cons se_str (sa_cons se_var sa_nil))))) ss_next
def T_streamfault : TS :=
    tSeq (tAsg (tVar 0) (gTU K 3 (gCons (gName 2) (gCons (gName 3) (gCons (gName 4) gNil)))))
    (tSeq (tIfS (tNot (tB (tCall (spF F_is_form) [] E0 (tCons (tVar 1) (tCons (tCB (rLenQ K) (tCons (tVar 2) tNil)) tNil))))) (tRet (tTupF (tCons (tC (.str "form")) tNil))) tNext)
    (tSeq (tFor (iEnumU K (tCons (tVar 1) tNil)) (gTU K 2 (gCons (gName 5) (gCons (gName 6) gNil))) (tIfS (tTest (tOp (rGtU K) (tVar 6) (tOp (rIx K) (tOp (rIx K) (tVar 2) (tVar 5)) (tC (.int 2))))) (tRet (tTupF (tCons (tC (.str "room")) (tCons (tVar 5) tNil)))) tNext))
    (tSeq (tFor (iEnumU K (tCons (tVar 3) tNil)) (gTU K 2 (gCons (gName 7) (gCons (gName 8) gNil))) (tIfS (tTest (tOp (rNeD K) (tCall (spF F_borne) [] E0 (tCons (tVar 1) (tCons (tOp (rIx K) (tVar 4) (tVar 7)) tNil))) (tCall (spF F_borne) [] E0 (tCons (tVar 1) (tCons (tVar 8) tNil))))) (tRet (tTupF (tCons (tC (.str "house")) (tCons (tVar 7) tNil)))) tNext))
    (tRet (tC .non)))))
theorem ss_streamfault : SS T_streamfault X_streamfault := by
  unfold X_streamfault T_streamfault
  exact ss_seq (ss_asg (sg_tup (sg_cons (sg_name (by decide)) (sg_cons (sg_name (by decide)) (sg_cons (sg_name (by decide)) sg_nil)))) (sw_M se_var))
    (ss_seq (ss_if (swt_M (st_not (st_B (se_call (sa_cons se_var (sa_cons (se_cb sc_len (sa_cons se_var sa_nil)) sa_nil)))))) (ss_ret (sw_M (se_tup (sa_cons se_str sa_nil)))) ss_next)
    (ss_seq (ss_for (swi_enum (swa_cons (sw_M se_var) swa_nil)) (sg_tup (sg_cons (sg_name (by decide)) (sg_cons (sg_name (by decide)) sg_nil))) ss_X_streamfault_b1)
    (ss_seq (ss_for (swi_enum (swa_cons (sw_M se_var) swa_nil)) (sg_tup (sg_cons (sg_name (by decide)) (sg_cons (sg_name (by decide)) sg_nil))) ss_X_streamfault_b2)
    (ss_ret (sw_M se_non)))))
def T_worth : TS :=
    tRet (tCall (spF F_borne) [] E0 (tCons (tVar 1) (tCons (tCall (spF F_in_doors) [] E0 (tCons (tVar 0) tNil)) tNil)))
theorem ss_worth : SS T_worth X_worth := by
  unfold X_worth T_worth
  exact ss_ret (sw_M (se_call (sa_cons se_var (sa_cons (se_call (sa_cons se_var sa_nil)) sa_nil))))
theorem ss_X_law_z92_b1 : SS (tAsg (tOp (rAddU K) (tOp (rIx K) (tVar 5) (tVar 10)) (tVar 9)) (gSub (tVar 5) (tVar 10) rSetL)) X_law_z92_b1 := by
  unfold X_law_z92_b1
  exact ss_set se_var (sw_V (se_op so_add (se_op so_ix se_var se_var) se_var))
theorem ss_X_law_z92_b2 : SS (tSeq (tAsg (tCall (spW F__law_next) [] E0 (tCons (tVar 1) (tCons (tOp (rAddU K) (tVar 8) (tC (.int 1))) tNil))) (gName 9))
    (tSeq (tIfS (tTest (tOp oIsU (tOp (rIx K) (tOp (rIx K) (tOp (rIx K) (tVar 3) (tC (.int 0))) (tOp (rIx K) (tVar 7) (tC (.int 0)))) (tC (.int 0))) (tC .non))) (tAsg (tOp (rAddU K) (tVar 6) (tVar 9)) (gName 6)) tNext)
    (tFor (iSeq K (tVar 7)) (gName 10) (tAsg (tOp (rAddU K) (tOp (rIx K) (tVar 5) (tVar 10)) (tVar 9)) (gSub (tVar 5) (tVar 10) rSetL))))) X_law_z92_b2 := by
  unfold X_law_z92_b2
  exact ss_seq (ss_asg (sg_name (by decide)) (sw_callK (swa_cons (sw_M (se_op so_add se_var se_int)) swa_nil)))
    (ss_seq (ss_if (swt_M (st_test (se_op so_isU (se_op so_ix (se_op so_ix (se_op so_ix se_var se_int) (se_op so_ix se_var se_int)) se_int) se_non))) (ss_asg (sg_name (by decide)) (sw_M (se_op so_add se_var se_var))) ss_next)
    (ss_for (swi_seq (sw_M se_var)) (sg_name (by decide)) ss_X_law_z92_b1))
theorem ss_X_law_z92_b3 : SS (tSeq (tAsg (tCall (spW F__law_web) [] E0 (tCons (tVar 1) (tCons (tC (.int 8)) (tCons (tC (.int 20)) (tCons (tOp (rEqD K) (tCall (spW F__law_next) [] E0 (tCons (tVar 1) (tCons (tC (.int 2)) tNil))) (tC (.int 0))) tNil))))) (gName 3))
    (tSeq (tAsg (tCall (spW F__law_stream_f) [] E0 (tCons (tVar 1) (tCons (tVar 3) (tCons (tCall (spW F__law_next) [] E0 (tCons (tVar 1) (tCons (tC (.int 12)) tNil))) tNil)))) (gName 4))
    (tSeq (tPar 5 6 (tCons (tOp (rMulV K) (tLst (tCons (tC (.int 0)) tNil)) (tCB (rLenQ K) (tCons (tVar 4) tNil))) (tCons (tC (.int 0)) tNil)))
    (tSeq (tFor (iSeq K (tCall (spF F_bundle) [] E0 (tCons (tVar 3) (tCons (tVar 4) tNil)))) (gTU K 2 (gCons (gName 7) (gCons (gName 8) gNil))) (tSeq (tAsg (tCall (spW F__law_next) [] E0 (tCons (tVar 1) (tCons (tOp (rAddU K) (tVar 8) (tC (.int 1))) tNil))) (gName 9))
    (tSeq (tIfS (tTest (tOp oIsU (tOp (rIx K) (tOp (rIx K) (tOp (rIx K) (tVar 3) (tC (.int 0))) (tOp (rIx K) (tVar 7) (tC (.int 0)))) (tC (.int 0))) (tC .non))) (tAsg (tOp (rAddU K) (tVar 6) (tVar 9)) (gName 6)) tNext)
    (tFor (iSeq K (tVar 7)) (gName 10) (tAsg (tOp (rAddU K) (tOp (rIx K) (tVar 5) (tVar 10)) (tVar 9)) (gSub (tVar 5) (tVar 10) rSetL))))))
    (tSeq (tAsg (tCB (rTupF K) (tCons (tVar 5) tNil)) (gName 11))
    (tSeq (tAsg (tCB (rTupF K) (tCons (tLc (iRng1 (tCons (tCB (rLenQ K) (tCons (tVar 4) tNil)) tNil)) (gName 10) tYes (tOp oSub (tOp (rIx K) (tVar 4) (tVar 10)) (tOp (rIx K) (tVar 11) (tVar 10))) [10]) tNil)) (gName 12))
    (tSeq (tIfS (tOr (tTest (tOp oNotU (tCall (spF F_streamfault) [] E0 (tCons (tVar 3) (tCons (tVar 11) tNil))) (tC .non))) (tTest (tOp oNotU (tCall (spF F_streamfault) [] E0 (tCons (tVar 3) (tCons (tVar 12) tNil))) (tC .non)))) (tRet (tC (.bl false))) tNext)
    (tSeq (tIfS (tTest (tOp (rNeD K) (tCall (spF F_worth) [] E0 (tCons (tVar 3) (tCons (tVar 11) tNil))) (tVar 6))) (tRet (tC (.bl false))) tNext)
    (tIfS (tTest (tOp (rNeD K) (tOp (rAddU K) (tCall (spF F_worth) [] E0 (tCons (tVar 3) (tCons (tVar 11) tNil))) (tCall (spF F_worth) [] E0 (tCons (tVar 3) (tCons (tVar 12) tNil)))) (tCall (spF F_worth) [] E0 (tCons (tVar 3) (tCons (tVar 4) tNil))))) (tRet (tC (.bl false))) tNext))))))))) X_law_z92_b3 := by
  unfold X_law_z92_b3
  exact ss_seq (ss_asg (sg_name (by decide)) (sw_callK (swa_cons (sw_M se_int) (swa_cons (sw_M se_int) (swa_cons (sw_op so_eq (sw_callK (swa_cons (sw_M se_int) swa_nil)) (sw_M se_int)) swa_nil)))))
    (ss_seq (ss_asg (sg_name (by decide)) (sw_callK (swa_cons (sw_M se_var) (swa_cons (sw_callK (swa_cons (sw_M se_int) swa_nil)) swa_nil))))
    (ss_seq (ss_par (by decide) (by decide) (swc_sub (swo_M (sef_op sof_repV (SEF.se (sef_lst (sa_cons se_int sa_nil))) (se_cb sc_len (sa_cons se_var sa_nil)))) (swc_dat (sw_M se_int) swc_nil)))
    (ss_seq (ss_for (swi_seq (sw_M (se_call (sa_cons se_var (sa_cons se_var sa_nil))))) (sg_tup (sg_cons (sg_name (by decide)) (sg_cons (sg_name (by decide)) sg_nil))) ss_X_law_z92_b2)
    (ss_fz (ss_seq (ss_asg (sg_name (by decide)) (sw_M (se_cb sc_tup (sa_cons se_var sa_nil))))
    (ss_seq (ss_asg (sg_name (by decide)) (sw_M (se_cb sc_tup (sa_cons (SEF.se (sef_lc (si_rng (sa_cons (se_cb sc_len (sa_cons se_var sa_nil)) sa_nil)) sgv_name (by decide) st_yes (se_op so_sub (se_op so_ix se_var se_var) (se_op so_ix se_var se_var)))) sa_nil))))
    (ss_seq (ss_if (swt_M (st_or (st_test (se_op so_isntU (se_call (sa_cons se_var (sa_cons se_var sa_nil))) se_non)) (st_test (se_op so_isntU (se_call (sa_cons se_var (sa_cons se_var sa_nil))) se_non)))) (ss_fz (ss_ret (sw_M se_bl))) ss_next)
    (ss_seq (ss_if (swt_M (st_test (se_op so_ne (se_call (sa_cons se_var (sa_cons se_var sa_nil))) se_var))) (ss_fz (ss_ret (sw_M se_bl))) ss_next)
    (ss_if (swt_M (st_test (se_op so_ne (se_op so_add (se_call (sa_cons se_var (sa_cons se_var sa_nil))) (se_call (sa_cons se_var (sa_cons se_var sa_nil)))) (se_call (sa_cons se_var (sa_cons se_var sa_nil)))))) (ss_fz (ss_ret (sw_M se_bl))) ss_next)))))))))
def T_law_z92 : TS :=
    tSeq (tAsg (tCall (spD F__law_deck_h) [] E0 (tCons (tVar 0) tNil)) (gName 1))
    (tSeq (tFor (iRng1 (tCons (tC (.int 6)) tNil)) (gName 2) (tSeq (tAsg (tCall (spW F__law_web) [] E0 (tCons (tVar 1) (tCons (tC (.int 8)) (tCons (tC (.int 20)) (tCons (tOp (rEqD K) (tCall (spW F__law_next) [] E0 (tCons (tVar 1) (tCons (tC (.int 2)) tNil))) (tC (.int 0))) tNil))))) (gName 3))
    (tSeq (tAsg (tCall (spW F__law_stream_f) [] E0 (tCons (tVar 1) (tCons (tVar 3) (tCons (tCall (spW F__law_next) [] E0 (tCons (tVar 1) (tCons (tC (.int 12)) tNil))) tNil)))) (gName 4))
    (tSeq (tPar 5 6 (tCons (tOp (rMulV K) (tLst (tCons (tC (.int 0)) tNil)) (tCB (rLenQ K) (tCons (tVar 4) tNil))) (tCons (tC (.int 0)) tNil)))
    (tSeq (tFor (iSeq K (tCall (spF F_bundle) [] E0 (tCons (tVar 3) (tCons (tVar 4) tNil)))) (gTU K 2 (gCons (gName 7) (gCons (gName 8) gNil))) (tSeq (tAsg (tCall (spW F__law_next) [] E0 (tCons (tVar 1) (tCons (tOp (rAddU K) (tVar 8) (tC (.int 1))) tNil))) (gName 9))
    (tSeq (tIfS (tTest (tOp oIsU (tOp (rIx K) (tOp (rIx K) (tOp (rIx K) (tVar 3) (tC (.int 0))) (tOp (rIx K) (tVar 7) (tC (.int 0)))) (tC (.int 0))) (tC .non))) (tAsg (tOp (rAddU K) (tVar 6) (tVar 9)) (gName 6)) tNext)
    (tFor (iSeq K (tVar 7)) (gName 10) (tAsg (tOp (rAddU K) (tOp (rIx K) (tVar 5) (tVar 10)) (tVar 9)) (gSub (tVar 5) (tVar 10) rSetL))))))
    (tSeq (tAsg (tCB (rTupF K) (tCons (tVar 5) tNil)) (gName 11))
    (tSeq (tAsg (tCB (rTupF K) (tCons (tLc (iRng1 (tCons (tCB (rLenQ K) (tCons (tVar 4) tNil)) tNil)) (gName 10) tYes (tOp oSub (tOp (rIx K) (tVar 4) (tVar 10)) (tOp (rIx K) (tVar 11) (tVar 10))) [10]) tNil)) (gName 12))
    (tSeq (tIfS (tOr (tTest (tOp oNotU (tCall (spF F_streamfault) [] E0 (tCons (tVar 3) (tCons (tVar 11) tNil))) (tC .non))) (tTest (tOp oNotU (tCall (spF F_streamfault) [] E0 (tCons (tVar 3) (tCons (tVar 12) tNil))) (tC .non)))) (tRet (tC (.bl false))) tNext)
    (tSeq (tIfS (tTest (tOp (rNeD K) (tCall (spF F_worth) [] E0 (tCons (tVar 3) (tCons (tVar 11) tNil))) (tVar 6))) (tRet (tC (.bl false))) tNext)
    (tIfS (tTest (tOp (rNeD K) (tOp (rAddU K) (tCall (spF F_worth) [] E0 (tCons (tVar 3) (tCons (tVar 11) tNil))) (tCall (spF F_worth) [] E0 (tCons (tVar 3) (tCons (tVar 12) tNil)))) (tCall (spF F_worth) [] E0 (tCons (tVar 3) (tCons (tVar 4) tNil))))) (tRet (tC (.bl false))) tNext))))))))))
    (tRet (tC (.bl true))))
theorem ss_law_z92 : SS T_law_z92 X_law_z92 := by
  unfold X_law_z92 T_law_z92
  exact ss_seq (ss_own (by decide) (sw_callD (swa_cons (sw_M se_var) swa_nil)))
    (ss_seq (ss_for (swi_rng (swa_cons (sw_M se_int) swa_nil)) (sg_name (by decide)) ss_X_law_z92_b3)
    (ss_fz (ss_ret (sw_M se_bl))))
end
end Fn
namespace Fn
open PySem PySem.Spec PyProof.Rows L2 Uv
/-! family E: the deck and what is drawn of it -/
def DkE (b : Nat) (cs : List Cel) : Prop := ∃ (cells : List Int) (p q n : Int), cs = [.dat (.list (cells.map PyData.int)), .dat (.int p), .dat (.int q), .dat (.int n)] ∧ cells.length ≤ 63 ∧ 0 ≤ p ∧ 0 ≤ n ∧ n ≤ b
theorem DkE.mono {b c : Nat} {cs : List Cel} (h : DkE b cs) (hb : b ≤ c) : DkE c cs := by
  obtain ⟨cells, p, q, n, e, h1, h4, h2, h3⟩ := h
  exact ⟨cells, p, q, n, e, h1, h4, h2, by omega⟩
theorem in64_e1 : In64 1000003 := ⟨by decide, by decide⟩
theorem in64_e2 : In64 48271 := ⟨by decide, by decide⟩
theorem e_mixed {c t : Int} (h0 : 0 ≤ t) (h1 : t ≤ 2 ^ 41) : ∃ x : Int, F__law_mixed_b [.int c, .int t] = some (.int x) := by
  have base : In63 (c % 2147483629 + t * 1000003 + 17) := ⟨by omega, by omega⟩
  have h : wp (F__law_mixed_b [.int c, .int t]) (tag fun d => ∃ x : Int, d = .int x) := by
    unfold F__law_mixed_b
    refine wp_runP rfl ?_
    unfold X__law_mixed_b
    simp -implicitDefEqProofs [base, in64_e1]
  obtain ⟨d, e, x, rfl⟩ := h
  exact ⟨x, e⟩
theorem ne_nilN {l : List Nat} : neP (.list (l.map natD)) (.list []) = some (.bool (!l.isEmpty)) := by
  have e : l.map natD = (l.map fun (n : Nat) => (n : Int)).map PyData.int := by rw [List.map_map]; rfl
  unfold neP
  rw [if_pos ⟨by rw [e]; exact PySem.W.shaped_ints _, rfl⟩]
  cases l <;> rfl
theorem ne_nilI {l : List Int} : neP (.list (l.map PyData.int)) (.list []) = some (.bool (!l.isEmpty)) := by
  unfold neP
  rw [if_pos ⟨PySem.W.shaped_ints _, rfl⟩]
  cases l <;> rfl
theorem e_next {b : Nat} {cs : List Cel} {m : Int} {Q : PD × List Cel → Prop} (h : DkE b cs) (hb : b ≤ 2 ^ 40) (hm : 0 < m) (hm2 : m < 2 ^ 64) (hq : ∀ (r : Nat) cs', (r : Int) < m → DkE (b + 1) cs' → Q (natD r, cs')) : wp (F__law_next_c cs [.int m]) (tag Q) := by
  obtain ⟨cells, p, q, n, rfl, hl, hp0, h0, hn⟩ := h
  have fin : ∀ (x q' p' : Int), 0 ≤ p' → Q (.int (x % m), [.dat (.list (cells.map PyData.int)), .dat (.int p'), .dat (.int q'), .dat (.int (n + 1))]) := fun x q' p' hp' => by
    obtain ⟨j, hj, ej⟩ := emod_nat (a := x) hm
    rw [ej]
    exact hq j _ hj ⟨cells, p', q', n + 1, rfl, hl, hp', by omega, by omega⟩
  have mix : ∀ c : Int, ∃ x : Int, F__law_mixed_b [.int c, .int (n + 1)] = some (.int x) := fun c => e_mixed (by omega) (by omega)
  have dv : Dvr m := ⟨hm, hm2⟩
  obtain ⟨R, hR⟩ : ∃ R : XS, R = (sSeq (sIf (wVT (xB (xOp gtU (xOp ixP (xVar 0) (xC (.int 2))) (xC (.int 0))))) (sSeq (sAsg (gName' 3) (wV (xOp modP (xOp ixP (xVar 0) (xC (.int 2))) (xVar 1))))
    (sSeq (sSet 0 (xC (.int 2)) (wV (xOp divP (xOp ixP (xVar 0) (xC (.int 2))) (xVar 1))))
    (sRet (wM (xVar 3))))) sNext)
    (sSeq (sAsg (gName' 4) (wV (xOp mulU (xOp ixP (xVar 0) (xC (.int 3))) (xC (.int 48271)))))
    (sSeq (sIf (wVT (xB (xOp neP (xOp ixP (xVar 0) (xC (.int 0))) (xLst xNil)))) (sAsg (gName' 4) (wV (xOp addP (xVar 4) (xOp ixP (xOp ixP (xVar 0) (xC (.int 0))) (xOp modP (xOp mulU (xOp ixP (xVar 0) (xC (.int 3))) (xC (.int 7))) (xCB (on1 lenP) (xCons (xOp ixP (xVar 0) (xC (.int 0))) xNil))))))) sNext)
    (sRet (wV (xOp modP (xCB F__law_mixed_b (xCons (xVar 4) (xCons (xOp ixP (xVar 0) (xC (.int 3))) xNil))) (xVar 1))))))) := ⟨_, rfl⟩
  have rest : ∀ (p' q' : Int) (z2 z3 z4 : Sl), 0 ≤ p' → wp (R [.own [.dat (.list (cells.map PyData.int)), .dat (.int p'), .dat (.int q'), .dat (.int (n + 1))], .dat (.int m), z2, z3, z4]) (tag (endW (tag Q))) := by
    intro p' q' z2 z3 z4 hp'
    rw [hR]
    simp -implicitDefEqProofs
    refine wp_altd (fun c => ?_) (fun c => ?_)
    · simp -implicitDefEqProofs [hm, dv]
      exact fin _ _ _ (by omega)
    · simp -implicitDefEqProofs [in64_e2, ne_nilI]
      refine wp_alt (fun c2 => ?_) (fun c2 => ?_)
      · have c2 : 0 < cells.length := List.length_pos_iff.mpr (by simpa using c2)
        obtain ⟨j, hj, ej⟩ := emod_nat (a := (n + 1) * 7) (show (0 : Int) < (cells.length : Int) by omega)
        have hj : j < cells.length := by omega
        obtain ⟨x, ex⟩ := mix ((n + 1) * 48271 + cells[j])
        simp -implicitDefEqProofs [c2, ej, atI_map hj, ex, hm]
        exact fin _ _ _ (by omega)
      · obtain ⟨x, ex⟩ := mix ((n + 1) * 48271)
        simp -implicitDefEqProofs [ex, hm]
        exact fin _ _ _ (by omega)
  unfold F__law_next_c
  refine wp_runW rfl ?_
  unfold X__law_next_c
  rw [← hR]
  clear hR
  simp -implicitDefEqProofs
  refine wp_alt (fun c => ?_) (fun c => ?_)
  · obtain ⟨c, hp⟩ : q = 0 ∧ p < cells.length := by simpa using c
    have hp : p.toNat < cells.length := by omega
    simp -implicitDefEqProofs [atI_int hp0 hp]
    refine wp_altd (fun c3 => ?_) (fun c3 => ?_)
    · obtain ⟨x, ex⟩ := mix (cells[p.toNat])
      simp -implicitDefEqProofs [ex, hm]
      exact fin _ _ _ (by omega)
    · simp -implicitDefEqProofs
      exact rest _ _ _ _ _ (by omega)
  · simp -implicitDefEqProofs
    exact rest _ _ _ _ _ (by omega)
theorem e_one {α : Type} {enc : α → PD} {l : List α} {b : Nat} {cs : List Cel} {Q : PD × List Cel → Prop} (h : DkE b cs) (hb : b ≤ 2 ^ 40) (h0 : l ≠ []) (h1 : l.length ≤ 1000000) (hq : ∀ x ∈ l, ∀ cs', DkE (b + 1) cs' → Q (enc x, cs')) : wp (F__law_one_b cs [.list (l.map enc)]) (tag Q) := by
  have : 0 < l.length := List.length_pos_iff.mpr h0
  unfold F__law_one_b
  refine wp_runW rfl ?_
  unfold X__law_one_b
  simp -implicitDefEqProofs
  refine e_next h hb (by omega) (by omega) fun r cs' hr d => ?_
  have hr : r < l.length := by omega
  simp -implicitDefEqProofs [atI_map hr]
  exact hq _ (List.getElem_mem hr) _ d
theorem e_order {b : Nat} {cs : List Cel} {ns : List Nat} {Q : PD × List Cel → Prop} (h : DkE b cs) (hb : b + ns.length ≤ 2 ^ 40) (hl : ns.length ≤ 1000) (hq : ∀ (es : List Nat) cs', es.Perm ns → DkE (b + ns.length) cs' → Q (natsD es, cs')) : wp (F__law_order_d cs [.list (ns.map natD)]) (tag Q) := by
  unfold F__law_order_d
  refine wp_runW rfl ?_
  unfold X__law_order_d
  simp -implicitDefEqProofs
  refine wp_while (fun k ρ => ∃ (cs : List Cel) (left found : List Nat), ρ = [.own cs, .dat (.list (ns.map natD)), .own (dats (left.map natD)), .own (dats (found.map natD))] ∧ left.length = k ∧ (found ++ left).Perm ns ∧ DkE (b + (ns.length - k)) cs) (@fuel_lt kk0 _ (show ns.length < 100000 by omega)) ⟨cs, ns, [], rfl, rfl, .refl _, by simpa using h⟩ ?_
  rintro k ρ ⟨cs, left, found, rfl, e2, p, d⟩
  have ll := p.length_eq
  rw [List.length_append] at ll
  simp -implicitDefEqProofs [ne_nilN]
  refine ⟨fun z => ?_, fun z => ?_⟩
  · subst z
    exact hq _ _ (by simpa using p) (by simpa [← e2] using d)
  · have : left.length ≠ 0 := fun z' => z (List.length_eq_zero_iff.mp z')
    unfold X__law_order_d_b1
    simp -implicitDefEqProofs
    refine e_next d (by omega) (by omega) (by omega) fun r cs' hr d' => ?_
    have hr : r < left.length := by omega
    simp -implicitDefEqProofs [ixN_nat' hr, datAt_map hr, erase_map]
    refine ⟨in63e_nat (by omega), by omega, ⟨k - 1, by omega, cs', left.eraseIdx r, found ++ [left[r]], by simp, ?_, ?_, d'.mono (by omega)⟩⟩
    · rw [List.length_eraseIdx, if_pos hr]; omega
    · rw [List.append_assoc]
      exact (List.Perm.append_left found (erase_perm hr)).trans p
end Fn

namespace Uv
open PySem PySem.Spec PyProof.Rows L2
@[simp] theorem q_toInt_b {b : Bool} : toIntP (.bool b) = some (.int (if b = true then 1 else 0)) := by cases b <;> rfl
@[simp] theorem q_toInt_i {i : Int} : toIntP (.int i) = some (.int i) := (rfl)
/-! a def in parts: what its rest does is shown apart -/
theorem wp_cut1 {A R : XS} {ρ : Env} {Q : Out → Prop} (P : XS → Prop) (hR : P R) (h : ∀ R, P R → wp (sSeq A R ρ) (tag Q)) : wp (sSeq A R ρ) (tag Q) := h R hR
theorem wp_cut2 {A B R : XS} {ρ : Env} {Q : Out → Prop} (P : XS → Prop) (hR : P R) (h : ∀ R, P R → wp (sSeq A (sSeq B R) ρ) (tag Q)) : wp (sSeq A (sSeq B R) ρ) (tag Q) := h R hR
theorem wp_cut3 {A B C R : XS} {ρ : Env} {Q : Out → Prop} (P : XS → Prop) (hR : P R) (h : ∀ R, P R → wp (sSeq A (sSeq B (sSeq C R)) ρ) (tag Q)) : wp (sSeq A (sSeq B (sSeq C R)) ρ) (tag Q) := h R hR
theorem wp_cut4 {A B C D R : XS} {ρ : Env} {Q : Out → Prop} (P : XS → Prop) (hR : P R) (h : ∀ R, P R → wp (sSeq A (sSeq B (sSeq C (sSeq D R))) ρ) (tag Q)) : wp (sSeq A (sSeq B (sSeq C (sSeq D R))) ρ) (tag Q) := h R hR
theorem mkWeb {rs : List Road} {gs ts : List (List Nat)} {m : Nat} (m1 : 1 ≤ m) (m8 : m ≤ 8) (r1 : 1 ≤ rs.length) (r20 : rs.length ≤ 20) (hr : ∀ x ∈ rs, OkRoad m x) (hg : gs.length = m) (ht : ts.length = m) (pg : ∀ (h : Nat) (l : List Nat), gs[h]? = some l → l.Perm (atR rs 0 h)) (pt : ∀ (h : Nat) (l : List Nat), ts[h]? = some l → l.Perm (atR rs 1 h)) : IsWeb ⟨rs, gs, ts⟩ :=
  ⟨⟨by show 1 ≤ gs.length; omega, by show gs.length ≤ 8; omega⟩, by show ts.length = gs.length; omega, ⟨r1, r20⟩, fun x hx => by show OkRoad gs.length x; rw [hg]; exact hr x hx, pg, pt⟩
theorem roadE {x y : Option Nat} {r : Int} : PyData.tuple [endD x, endD y, .int r] = roadD ⟨x, y, r⟩ := rfl
/-- whether a road's end of a side is a house, by its number -/
def isAt (rs : List Road) (s h k : Nat) : Bool := match rs[k]? with
  | some x => side s x == some h
  | none => false
theorem filter_atR {rs : List Road} {s h : Nat} : (List.range rs.length).filter (isAt rs s h) = atR rs s h := by
  have e : List.range rs.length = rs.zipIdx.map (·.2) := by
    rw [show (fun (p : Road × Nat) => p.2) = Prod.snd from rfl, List.zipIdx_map_snd, List.range_eq_range']
  unfold atR
  rw [e, List.filter_map]
  congr 1
  apply List.filter_congr
  rintro ⟨x, k⟩ hx
  have hx := List.mem_zipIdx' hx
  obtain ⟨h1, h2⟩ := hx
  have h2 : x = rs[k] := h2
  show isAt rs s h k = _
  unfold isAt
  rw [List.getElem?_eq_getElem h1, ← h2]
theorem mem_atR {rs : List Road} {s h k : Nat} : k ∈ atR rs s h ↔ ∃ x, rs[k]? = some x ∧ side s x = some h := by
  rw [← filter_atR, List.mem_filter]
  unfold isAt
  constructor
  · rintro ⟨h1, h2⟩
    have h1 : k < rs.length := List.mem_range.mp h1
    rw [List.getElem?_eq_getElem h1] at h2
    exact ⟨_, List.getElem?_eq_getElem h1, by simpa using h2⟩
  · rintro ⟨x, h1, h2⟩
    rw [h1]
    exact ⟨List.mem_range.mpr (List.getElem?_eq_some_iff.mp h1).1, by simpa using h2⟩
theorem atR_len {rs : List Road} {s h : Nat} : (atR rs s h).length ≤ rs.length := by
  unfold atR
  rw [List.length_map]
  exact Nat.le_trans (List.length_filter_le ..) (by simp)
/-- outside, and every house -/
def spots (n : Nat) : List (Option Nat) := none :: (List.range n).map some
theorem spots_eq {n : Nat} : PyData.none :: (List.range n).map natD = (spots n).map endD := by
  unfold spots
  rw [List.map_cons, List.map_map]
  rfl
theorem spots_len {n : Nat} : (spots n).length = n + 1 := by simp [spots]
theorem spots_nodup {n : Nat} : (spots n).Nodup := by
  unfold spots
  rw [List.nodup_cons]
  refine ⟨by simp, ?_⟩
  rw [List.nodup_iff_pairwise_ne, List.pairwise_map]
  exact (List.nodup_range).imp fun h e => h (Option.some.inj e)
theorem spots_mem {n : Nat} {x : Option Nat} (h : x ∈ spots n) : ∀ k, x = some k → k < n := by
  rintro k rfl
  simpa [spots] using h
theorem erase_mem {α : Type} {l : List α} {r : Nat} {x : α} (h : x ∈ l.eraseIdx r) : x ∈ l := List.mem_of_mem_eraseIdx h
theorem erase_ne {α : Type} {l : List α} (nd : l.Nodup) {r : Nat} (hr : r < l.length) {x : α} (h : x ∈ l.eraseIdx r) : l[r] ≠ x := by
  rintro rfl
  have p := (erase_perm hr).nodup_iff.mpr nd
  exact (List.nodup_cons.mp p).1 h
/-- a list of orders, one for each house, that is laid house by house -/
theorem ord_snoc {rs : List Road} {s : Nat} {gs : List (List Nat)} {l : List Nat} (hg : ∀ (h : Nat) (l : List Nat), gs[h]? = some l → l.Perm (atR rs s h)) (hl : l.Perm (atR rs s gs.length)) : ∀ (h : Nat) (l' : List Nat), (gs ++ [l])[h]? = some l' → l'.Perm (atR rs s h) := by
  intro h l' e
  by_cases c : h < gs.length
  · rw [List.getElem?_append_left c] at e
    exact hg h l' e
  · rw [List.getElem?_append_right (by omega)] at e
    have : h - gs.length = 0 := by
      apply Classical.byContradiction
      intro z
      rw [List.getElem?_eq_none (by simp; omega)] at e
      exact nomatch e
    rw [this] at e
    have hh : h = gs.length := by omega
    simp at e
    subst e
    rw [hh]
    exact hl
theorem ord_map {rs : List Road} {s n : Nat} (f : Nat → List Nat) (hf : ∀ h, (f h).Perm (atR rs s h)) : ∀ (h : Nat) (l : List Nat), ((List.range n).map f)[h]? = some l → l.Perm (atR rs s h) := by
  intro h l e
  rw [List.getElem?_map] at e
  obtain ⟨k, e1, e2⟩ := Option.map_eq_some_iff.mp e
  have := (List.getElem?_eq_some_iff.mp e1).2
  rw [List.getElem_range] at this
  rw [← e2, ← this]
  exact hf h
end Uv

namespace Fn
open PySem PySem.Spec PyProof.Rows L2 Uv
theorem cat_spots {n : Nat} (h : n ≤ 1000) : catP (.list [.none]) (.list ((List.range n).map natD)) = some (.list ((spots n).map endD)) := by
  rw [q_cat, grd_pos (by simp; omega), List.singleton_append, spots_eq]
/-- the roads at a house, by a comprehension -/
theorem lc_at {rs : List Road} {s h j : Nat} {t : XT} {v : VE} {Q : List PD → Prop} (ht : ∀ (k : Nat) (hk : k < rs.length), t (v.set j (some (natD k))) = some (side s rs[k] == some h)) (hj : ∀ k : Nat, xVar j (v.set j (some (natD k))) = some (natD k)) (hq : Q ((atR rs s h).map natD)) : wp (lcGo (gvName j) t (xVar j) v ((List.range rs.length).map natD)) (tag Q) := by
  refine wp_lc (isAt rs s h) natD (fun k hk => ?_) (by rw [filter_atR]; exact hq)
  have hk : k < rs.length := List.mem_range.mp hk
  have e : isAt rs s h k = (side s rs[k] == some h) := by unfold isAt; rw [List.getElem?_eq_getElem hk]
  rw [e]
  rw [q_gvName, wp_some, ht k hk, wp_some, hj, wp_some]
  exact ⟨rfl, fun _ => rfl⟩
theorem e_orders {b m s : Nat} {cs : List Cel} {rs : List Road} {s1 s2 s3 s4 s5 s6 s7 s8 s9 s10 s11 z : Sl} {Q : List PD × Uv.Env → Prop} (h : DkE b cs) (hb : b + 20 * m ≤ 2 ^ 40) (hm : m ≤ 8) (hr : rs.length ≤ 20) (hq : ∀ (gs : List (List Nat)) cs' z', gs.length = m → (∀ (h : Nat) (l : List Nat), gs[h]? = some l → l.Perm (atR rs s h)) → DkE (b + 20 * m) cs' → Q (gs.map natsD, [.own cs', s1, s2, s3, s4, s5, s6, s7, s8, s9, s10, s11, z'])) :
    wp (wlGo (gName' 12) (wMT xYes) (wCallK 0 F__law_order_d (wCons (wM (xVar 12)) wNil)) [12] ((List.range m).map fun h => .list ((atR rs s h).map natD)) [.own cs, s1, s2, s3, s4, s5, s6, s7, s8, s9, s10, s11, z]) (tag Q) := by
  refine wp_wl (fun i ds ρ => ∃ (gs : List (List Nat)) (cs : List Cel) (z : Sl), ds = gs.map natsD ∧ gs.length = i ∧ (∀ (h : Nat) (l : List Nat), gs[h]? = some l → l.Perm (atR rs s h)) ∧ ρ = [.own cs, s1, s2, s3, s4, s5, s6, s7, s8, s9, s10, s11, z] ∧ DkE (b + 20 * i) cs) ⟨[], cs, _, rfl, rfl, by simp, rfl, h⟩ ?_ ?_
  · rintro i hi ds ρ ⟨gs, cs, z, rfl, hl, ho, rfl, d⟩
    have hi : i < m := by simpa using hi
    have ll := atR_len (rs := rs) (s := s) (h := i)
    simp -implicitDefEqProofs
    refine e_order d (by omega) (by omega) fun es cs' pe d' => ?_
    simp -implicitDefEqProofs
    exact ⟨⟨gs ++ [es], cs', _, by simp, by simp [hl], ord_snoc ho (by rw [hl]; exact pe), rfl, d'.mono (by omega)⟩⟩
  · rintro ds ρ ⟨gs, cs, z, rfl, hl, ho, rfl, d⟩
    simp only [List.length_map, List.length_range] at hl d
    exact hq gs cs z hl ho d
theorem e_web {b : Nat} {cs : List Cel} {most many : Nat} {Q : PD × List Cel → Prop} (h : DkE b cs) (hb : b + 1000 ≤ 2 ^ 40) (m1 : 1 ≤ most) (m2 : most ≤ 8) (k1 : 1 ≤ many) (k2 : many ≤ 20) (hq : ∀ W cs', IsWeb W → W.roads.length ≤ many → W.gives.length ≤ max 2 most → (∀ x ∈ W.roads, x.r ≤ 2) → DkE (b + 1000) cs' → Q (webD W, cs')) : wp (F__law_web_f cs [natD most, natD many]) (tag Q) := by
  unfold F__law_web_f
  refine wp_runW rfl ?_
  unfold X__law_web_f
  refine wp_cut2 (fun R => ∀ (m : Nat) (rs : List Road) (cs : List Cel) (kind : Int) (z6 z7 z8 z9 z10 z11 z12 : Sl), 1 ≤ m → m ≤ max 2 most → rs.length ≤ 4 → rs.length ≤ many → (∀ x ∈ rs, OkRoad m x ∧ x.r ≤ 2) → DkE (b + 10) cs → wp (R [.own cs, .dat (natD most), .dat (natD many), .dat (.int kind), .dat (natD m), .own (dats (rs.map roadD)), z6, z7, z8, z9, z10, z11, z12]) (tag (endW (tag Q)))) ?_ ?_
  · intro m rs cs kind z6 z7 z8 z9 z10 z11 z12 m1 m2 l1 l2 ho d
    have m8 : m ≤ 8 := by omega
    refine wp_cut1 (fun R => ∀ (rs : List Road) (cs : List Cel) (z6 z7 z8 z9 z10 z11 z12 : Sl), 1 ≤ rs.length → rs.length ≤ many → (∀ x ∈ rs, OkRoad m x ∧ x.r ≤ 2) → DkE (b + 100) cs → wp (R [.own cs, .dat (natD most), .dat (natD many), .dat (.int kind), .dat (natD m), .own (dats (rs.map roadD)), z6, z7, z8, z9, z10, z11, z12]) (tag (endW (tag Q)))) ?_ ?_
    · clear l1 l2 ho d z6 z7 z8 z9 z10 z11 z12 cs rs
      intro rs cs z6 z7 z8 z9 z10 z11 z12 l1 l2 ho d
      simp -implicitDefEqProofs
      refine ⟨in62_nat (by omega), by omega, ?_⟩
      refine wp_lcT (fun h => .list ((atR rs 0 h).map natD)) (fun h hh => ?_) ?_
      · simp -implicitDefEqProofs
        refine ⟨in62_nat (by omega), by omega, ?_⟩
        refine lc_at (s := 0) (h := h) (fun k hk => ?_) (fun k => rfl) ?_
        · simp -implicitDefEqProofs [atI_map hk, eq_end, side]
        · simp -implicitDefEqProofs
      simp -implicitDefEqProofs
      refine ⟨in62_nat (by omega), by omega, ?_⟩
      refine wp_lcT (fun h => .list ((atR rs 1 h).map natD)) (fun h hh => ?_) ?_
      · simp -implicitDefEqProofs
        refine ⟨in62_nat (by omega), by omega, ?_⟩
        refine lc_at (s := 1) (h := h) (fun k hk => ?_) (fun k => rfl) ?_
        · simp -implicitDefEqProofs [atI_map hk, eq_end, side]
        · simp -implicitDefEqProofs
      simp -implicitDefEqProofs
      refine wp_altd (fun c => ?_) (fun c => ?_)
      · simp -implicitDefEqProofs
        refine ⟨by omega, ?_⟩
        refine wp_lcT (fun h => natsD (atR rs 0 h)) (fun h hh => ?_) ?_
        · simp -implicitDefEqProofs
          rfl
        simp -implicitDefEqProofs
        refine ⟨by omega, ?_⟩
        refine wp_lcT (fun h => natsD (atR rs 1 h).reverse) (fun h hh => ?_) ?_
        · simp -implicitDefEqProofs
          rw [← List.map_reverse]
          rfl
        simp -implicitDefEqProofs
        have := hq ⟨rs, (List.range m).map fun h => atR rs 0 h, (List.range m).map fun h => (atR rs 1 h).reverse⟩ cs (mkWeb (m := m) (by omega) (by omega) l1 (by omega) (fun x hx => (ho x hx).1) (by simp) (by simp) (ord_map _ fun h => .refl _) (ord_map _ fun h => List.reverse_perm _)) l2 (by simpa using m2) (fun x hx => (ho x hx).2) (d.mono (by omega))
        unfold webD at this
        rw [List.map_map, List.map_map] at this
        exact this
      · simp -implicitDefEqProofs
        refine ⟨by omega, ?_⟩
        refine e_orders d (by omega) (by omega) (by omega) fun gs cs1 z g1 pg d1 => ?_
        simp -implicitDefEqProofs
        refine ⟨by omega, ?_⟩
        refine e_orders d1 (by omega) (by omega) (by omega) fun ts cs2 z t1 pt d2 => ?_
        simp -implicitDefEqProofs
        exact hq ⟨rs, gs, ts⟩ cs2 (mkWeb (m := m) (by omega) (by omega) l1 (by omega) (fun x hx => (ho x hx).1) g1 t1 pg pt) l2 (by show gs.length ≤ _; omega) (fun x hx => (ho x hx).2) (d2.mono (by omega))
    · intro R main
      simp -implicitDefEqProofs
      refine e_next d (by omega) (by omega) (by omega) fun r cs1 a1 d1 => ?_
      simp -implicitDefEqProofs
      refine ⟨⟨by omega, by omega⟩, ?_⟩
      obtain ⟨n, en⟩ : ∃ n : Nat, (1 + (r : Int)).toNat - rs.length = n := ⟨_, rfl⟩
      rw [en]
      refine wp_forR (fun k ρ => ∃ (cs : List Cel) (rs' : List Road) (z6 z7 z8 z9 z10 z11 z12 : Sl), ρ = [.own cs, .dat (natD most), .dat (natD many), .dat (.int kind), .dat (natD m), .own (dats (rs'.map roadD)), z6, z7, z8, z9, z10, z11, z12] ∧ rs'.length = rs.length + k ∧ (∀ x ∈ rs', OkRoad m x ∧ x.r ≤ 2) ∧ DkE (b + 11 + 3 * k) cs) ⟨cs1, rs, _, _, _, _, _, _, _, rfl, rfl, ho, d1⟩ ?_ ?_
      · rintro i hi ρ ⟨cs, rs', z6, z7, z8, z9, z10, z11, z12, rfl, hl, ho', d'⟩
        unfold X__law_web_f_b1
        simp -implicitDefEqProofs [cat_spots (show m ≤ 1000 by omega)]
        refine ⟨rg_nat (by omega), ?_⟩
        refine e_next d' (by omega) (by rw [spots_len]; omega) (by rw [spots_len]; omega) fun r1 cs2 a2 d2 => ?_
        have hr1 : r1 < (spots m).length := by omega
        have sl := spots_len (n := m)
        simp -implicitDefEqProofs [ixN_nat' hr1, datAt_map hr1, erase_map]
        refine ⟨in63e_nat (by omega), ?_⟩
        have el : ((spots m).eraseIdx r1).length = m := by rw [List.length_eraseIdx, if_pos hr1]; omega
        refine e_one d2 (by omega) (fun z => by rw [z] at el; simp at el; omega) (by omega) fun y hy cs3 d3 => ?_
        simp -implicitDefEqProofs
        refine e_next d3 (by omega) (by omega) (by omega) fun r4 cs4 a4 d4 => ?_
        simp -implicitDefEqProofs
        refine wp_pick (by simp; omega) fun x hx => ?_
        obtain ⟨q, rfl, q0, q1⟩ : ∃ q : Int, x = .int q ∧ 0 ≤ q ∧ q ≤ 2 := by
          simp at hx
          rcases hx with rfl | rfl | rfl | rfl | rfl | rfl <;> exact ⟨_, rfl, by omega, by omega⟩
        simp -implicitDefEqProofs
        refine ⟨by omega, ⟨cs4, rs' ++ [⟨(spots m)[r1], y, q⟩], _, _, _, _, _, _, _, by rw [List.map_append]; rfl, by simp; omega, fun x hx => ?_, d4.mono (by omega)⟩⟩
        rcases List.mem_append.mp hx with h | h
        · exact ho' x h
        · rw [List.mem_singleton.mp h]
          exact ⟨⟨erase_ne spots_nodup hr1 hy, spots_mem (List.getElem_mem hr1), spots_mem (erase_mem hy), q0, by show q ≤ 1000000000000; omega⟩, q1⟩
      · rintro ρ ⟨cs, rs', z6, z7, z8, z9, z10, z11, z12, rfl, hl, ho', d'⟩
        simp -implicitDefEqProofs
        exact main rs' cs _ _ _ _ _ _ _ (by omega) (by omega) ho' (d'.mono (by omega))
  · intro R main
    simp -implicitDefEqProofs
    refine e_next h (by omega) (by omega) (by omega) fun kind cs1 a1 d1 => ?_
    simp -implicitDefEqProofs
    refine e_next d1 (by omega) (by omega) (by omega) fun r2 cs2 a2 d2 => ?_
    obtain ⟨m, em⟩ : ∃ m : Nat, (1 + (r2 : Int)) = (m : Int) := ⟨1 + r2, by omega⟩
    simp -implicitDefEqProofs
    rw [em]
    refine wp_alt (fun c => ?_) (fun c => ?_)
    · simp at c
      simp -implicitDefEqProofs
      refine e_next d2 (by omega) (by omega) (by omega) fun r3 cs3 a3 d3 => ?_
      simp -implicitDefEqProofs
      refine e_next d3 (by omega) (by omega) (by omega) fun r4 cs4 a4 d4 => ?_
      simp -implicitDefEqProofs
      have e2 : (if (m : Int) > 2 then (m : Int) else 2) = ((max 2 m : Nat) : Int) := by split <;> omega
      rw [e2]
      exact main (max 2 m) [⟨none, some 0, 1⟩, ⟨some 0, some 1, 1 + r3⟩, ⟨some 0, some 1, 1 + r4⟩, ⟨some 1, none, 1⟩] cs4 _ _ _ _ _ _ _ _ (by omega) (by omega) (by simp) (by simp; omega) (by simp [OkRoad]; omega) (d4.mono (by omega))
    · simp -implicitDefEqProofs
      exact main m [] cs2 _ _ _ _ _ _ _ _ (by omega) (by omega) (by simp) (by simp) (by simp) (d2.mono (by omega))
end Fn

namespace Fn
open PySem PySem.Spec PyProof.Rows L2 Uv
/-! family A: the deck and what is drawn of it -/
def DkA (b : Nat) (cs : List Cel) : Prop := ∃ (gs ns : List Int) (n : Int), cs = [.sub (gs.map PyData.int), .sub (ns.map PyData.int), .dat (.int n)] ∧ gs.length ≤ 63 ∧ ns ≠ [] ∧ ns.length ≤ 64 ∧ 0 ≤ n ∧ n ≤ b
theorem DkA.mono {b c : Nat} {cs : List Cel} (h : DkA b cs) (hb : b ≤ c) : DkA c cs := by
  obtain ⟨gs, ns, n, e, h1, h2, h3, h4, h5⟩ := h
  exact ⟨gs, ns, n, e, h1, h2, h3, h4, by omega⟩
theorem ne_nilIA {l : List Int} : neP (.list (l.map PyData.int)) (.list []) = some (.bool (!l.isEmpty)) := by
  unfold neP
  rw [if_pos ⟨PySem.W.shaped_ints _, rfl⟩]
  cases l <;> rfl
theorem a_next {b : Nat} {cs : List Cel} {m : Int} {Q : PD × List Cel → Prop} (h : DkA b cs) (hb : b ≤ 2 ^ 40) (hm : 0 < m) (hm2 : m < 2 ^ 64) (hq : ∀ (r : Nat) cs', (r : Int) < m → DkA (b + 1) cs' → Q (natD r, cs')) : wp (F__law_next cs [.int m]) (tag Q) := by
  obtain ⟨gs, ns, n, rfl, hg, hn0, hnl, h0, hn⟩ := h
  have dv : Dvr m := ⟨hm, hm2⟩
  have ln : 0 < ns.length := List.length_pos_iff.mpr hn0
  unfold F__law_next
  refine wp_runW rfl ?_
  unfold X__law_next
  simp -implicitDefEqProofs
  refine wp_while (fun k ρ => ∃ (gs : List Int) (z2 z3 z4 : Sl), ρ = [.own [.sub (gs.map PyData.int), .sub (ns.map PyData.int), .dat (.int n)], .dat (.int m), z2, z3, z4] ∧ gs.length = k ∧ gs.length ≤ 63) (k := gs.length) (@fuel_lt kk0 _ (by omega)) ⟨gs, _, _, _, rfl, rfl, hg⟩ ?_
  rintro k ρ ⟨gs, z2, z3, z4, rfl, hk, hg⟩
  simp -implicitDefEqProofs [ne_nilIA]
  refine ⟨fun z => ?_, fun z => ?_⟩
  · subst z
    obtain ⟨j, hj, ej⟩ := emod_nat (a := n + 1) (show (0 : Int) < (ns.length : Int) by omega)
    have hj : j < ns.length := by omega
    refine ⟨ln, ?_⟩
    rw [ej, atI_map hj]
    obtain ⟨t, ht⟩ : ∃ t, t = n + 1 := ⟨_, rfl⟩
    obtain ⟨c, hc⟩ : ∃ c, c = ns[j] % 2147483647 := ⟨_, rfl⟩
    have c64 : In64 c := ⟨by omega, by omega⟩
    have t64 : In64 t := ⟨by omega, by omega⟩
    have e1 : In64 40692 := ⟨by decide, by decide⟩
    have e2 : In64 69621 := ⟨by decide, by decide⟩
    rw [← ht]
    simp -implicitDefEqProofs
    rw [← hc]
    simp -implicitDefEqProofs [c64, t64, e1, e2]
    obtain ⟨x, hx⟩ : ∃ x, x = (c * (48271 + 40692 * t) + 69621 * t * t + 13) % 2147483629 := ⟨_, rfl⟩
    have x64 : In64 x := ⟨by omega, by omega⟩
    rw [← hx]
    simp -implicitDefEqProofs [x64, hm]
    obtain ⟨i, hi, ei⟩ := emod_nat (a := x * x % 2147483587 / 16) hm
    rw [ei]
    exact hq i _ hi ⟨[], ns, t, by simp, by simp, hn0, hnl, by omega, by omega⟩
  · obtain ⟨g, gt, rfl⟩ : ∃ g gt, gs = g :: gt := by
      cases gs with
      | nil => exact absurd rfl z
      | cons g gt => exact ⟨g, gt, rfl⟩
    unfold X__law_next_b1
    have a0 : atI (PyData.int g :: gt.map PyData.int) 0 = some (.int g) := atI_at (k := 0) (by simp)
    have x0 : ixN (gt.length + 1) 0 = some 0 := ixN_nat' (n := gt.length + 1) (k := 0) (by omega)
    simp -implicitDefEqProofs [a0]
    refine wp_altd (fun c => ?_) (fun c => ?_)
    · simp -implicitDefEqProofs [hm, dv, x0]
      obtain ⟨i, hi, ei⟩ := emod_nat (a := g) hm
      rw [ei]
      exact hq i _ hi ⟨g / m :: gt, ns, n, by simp, by simpa using hg, hn0, hnl, h0, by omega⟩
    · simp -implicitDefEqProofs [x0]
      exact ⟨gt.length, by simp at hk; omega, gt, _, _, _, rfl, rfl, by simp at hg; omega⟩
theorem a_one {α : Type} {enc : α → PD} {l : List α} {b : Nat} {cs : List Cel} {Q : PD × List Cel → Prop} (h : DkA b cs) (hb : b ≤ 2 ^ 40) (h0 : l ≠ []) (h1 : l.length ≤ 1000000) (hq : ∀ x ∈ l, ∀ cs', DkA (b + 1) cs' → Q (enc x, cs')) : wp (F__law_one cs [.list (l.map enc)]) (tag Q) := by
  have : 0 < l.length := List.length_pos_iff.mpr h0
  unfold F__law_one
  refine wp_runW rfl ?_
  unfold X__law_one
  simp -implicitDefEqProofs
  refine a_next h hb (by omega) (by omega) fun r cs' hr d => ?_
  have hr : r < l.length := by omega
  simp -implicitDefEqProofs [atI_map hr]
  exact hq _ (List.getElem_mem hr) _ d
theorem a_pick {l : List Int} {b : Nat} {cs : List Cel} {Q : PD × List Cel → Prop} (h : DkA b cs) (hb : b ≤ 2 ^ 40) (h0 : l ≠ []) (h1 : l.length ≤ 1000000) (hq : ∀ x ∈ l, ∀ cs', DkA (b + 1) cs' → Q (.int x, cs')) : wp (F__law_one cs [.list (l.map PyData.int)]) (tag Q) := a_one (enc := PyData.int) h hb h0 h1 hq
theorem a_order {b : Nat} {cs : List Cel} {ns : List Nat} {Q : PD × List Cel → Prop} (h : DkA b cs) (hb : b + ns.length ≤ 2 ^ 40) (hl : ns.length ≤ 1000) (hq : ∀ (es : List Nat) cs', es.Perm ns → DkA (b + ns.length) cs' → Q (natsD es, cs')) : wp (F__law_order cs [.list (ns.map natD)]) (tag Q) := by
  unfold F__law_order
  refine wp_runW rfl ?_
  unfold X__law_order
  simp -implicitDefEqProofs
  refine wp_forM (fun k ρ => ∃ (cs : List Cel) (found : List Nat) (z3 : Sl), ρ = [.own cs, .dat (.list (ns.map natD)), .own (dats (found.map natD)), z3] ∧ found.Perm (ns.take k) ∧ DkA (b + k) cs) ⟨cs, [], _, rfl, by simp, h⟩ ?_ ?_
  · rintro k hk ρ ⟨cs, found, z3, rfl, p, d⟩
    have fl : found.length = k := by rw [p.length_eq, List.length_take]; omega
    unfold X__law_order_b1
    simp -implicitDefEqProofs
    refine a_next d (by omega) (by omega) (by omega) fun r cs' hr d' => ?_
    simp -implicitDefEqProofs
    have hr' : r ≤ found.length := by omega
    refine ⟨⟨by omega, in63e_nat (by omega)⟩, cs', found.take r ++ ns[k] :: found.drop r, .dat (natD ns[k]), ?_, ?_, d'⟩
    · simp [dats]
    · have tk : ns.take (k + 1) = ns.take k ++ [ns[k]] := by rw [List.take_succ, List.getElem?_eq_getElem hk]; rfl
      rw [tk]
      have p1 : (found.take r ++ ns[k] :: found.drop r).Perm (ns[k] :: (found.take r ++ found.drop r)) := List.perm_middle
      rw [List.take_append_drop] at p1
      exact p1.trans ((p.cons _).trans (List.perm_append_singleton _ _).symm)
  · rintro ρ ⟨cs, found, z3, rfl, p, d⟩
    rw [List.take_length] at p
    simp -implicitDefEqProofs
    exact hq found cs p d
theorem a_room {b : Nat} {cs : List Cel} {far : Bool} {Q : PD × List Cel → Prop} (h : DkA b cs) (hb : b + 4 ≤ 2 ^ 40) (hq : ∀ (r : Int) cs', 0 ≤ r → r ≤ 1000000000000 → DkA (b + 4) cs' → Q (.int r, cs')) : wp (F__law_room cs [.bool far]) (tag Q) := by
  unfold F__law_room
  refine wp_runW rfl ?_
  unfold X__law_room
  have e0 : [PyData.int 0, .int 1, .int 1, .int 2, .int 3, .int 5] = ([0, 1, 1, 2, 3, 5] : List Int).map PyData.int := rfl
  simp -implicitDefEqProofs
  rw [e0]
  refine a_pick h (by omega) (by simp) (by simp) fun x hx cs1 d1 => ?_
  have hx : 0 ≤ x ∧ x ≤ 5 := by simp at hx; omega
  simp -implicitDefEqProofs
  refine a_next d1 (by omega) (by omega) (by omega) fun r1 cs2 a1 d2 => ?_
  simp -implicitDefEqProofs
  refine a_next d2 (by omega) (by omega) (by omega) fun r2 cs3 a2 d3 => ?_
  simp -implicitDefEqProofs
  have e1 : [PyData.int 1, .int 2, .int 1000000000000, .int (1000000000000 - (r1 : Int)), natD r2] = ([1, 2, 1000000000000, 1000000000000 - (r1 : Int), (r2 : Int)] : List Int).map PyData.int := rfl
  rw [e1]
  refine a_pick d3 (by omega) (by simp) (by simp) fun y hy cs4 d4 => ?_
  have hy : 0 ≤ y ∧ y ≤ 1000000000000 := by simp at hy; omega
  simp -implicitDefEqProofs
  cases far with
  | true =>
    simp -implicitDefEqProofs [atI]
    exact hq y _ hy.1 hy.2 d4
  | false =>
    simp -implicitDefEqProofs [atI]
    exact hq x _ hx.1 (by omega) d4
/-- a road of two unlike spots -/
def spot (n : Nat) : Option Nat := if n = 0 then none else some (n - 1)
theorem spot_inj {a b : Nat} (h : spot a = spot b) : a = b := by
  unfold spot at h
  by_cases ca : a = 0 <;> by_cases cb : b = 0
  · omega
  · rw [if_pos ca, if_neg cb] at h; exact nomatch h
  · rw [if_neg ca, if_pos cb] at h; exact nomatch h
  · rw [if_neg ca, if_neg cb] at h; have := Option.some.inj h; omega
theorem spot_lt {a n h : Nat} (ha : a < n + 1) (e : spot a = some h) : h < n := by
  unfold spot at e
  by_cases c : a = 0
  · rw [if_pos c] at e; exact nomatch e
  · rw [if_neg c] at e; have := Option.some.inj e; omega
theorem q_spot {a : Nat} : (atI [PyData.none, .int ((a : Int) - 1)] (if 0 < (a : Int) then 1 else 0)) = some (endD (spot a)) := by
  unfold spot
  by_cases c : a = 0
  · subst c; rfl
  · rw [if_neg c, if_pos (by omega)]
    show some (PyData.int ((a : Int) - 1)) = some (natD (a - 1))
    congr 2
    omega
theorem a_road {b n : Nat} {cs : List Cel} {far : Bool} {Q : PD × List Cel → Prop} (h : DkA b cs) (hb : b + 6 ≤ 2 ^ 40) (n1 : 1 ≤ n) (n8 : n ≤ 8) (hq : ∀ (x : Road) cs', OkRoad n x → DkA (b + 6) cs' → Q (roadD x, cs')) : wp (F__law_road cs [natD n, .bool far]) (tag Q) := by
  unfold F__law_road
  refine wp_runW rfl ?_
  unfold X__law_road
  simp -implicitDefEqProofs
  refine a_next h (by omega) (by omega) (by omega) fun r1 cs1 a1 d1 => ?_
  simp -implicitDefEqProofs
  refine a_next d1 (by omega) (by omega) (by omega) fun r2 cs2 a2 d2 => ?_
  obtain ⟨r3, hr3, e3⟩ := emod_nat (a := (r1 : Int) + 1 + (r2 : Int)) (show (0 : Int) < (n : Int) + 1 by omega)
  have ne : r1 ≠ r3 := by
    intro z
    subst z
    have e4 : ((r1 : Int) + 1 + r2) % (n + 1) = r1 := e3
    clear e3
    have : n = 1 ∨ n = 2 ∨ n = 3 ∨ n = 4 ∨ n = 5 ∨ n = 6 ∨ n = 7 ∨ n = 8 := by omega
    rcases this with rfl | rfl | rfl | rfl | rfl | rfl | rfl | rfl <;> omega
  simp -implicitDefEqProofs [e3]
  have e5 : [natD r1, PyData.int (r3 : Int)] = [r1, r3].map natD := rfl
  rw [e5]
  refine wp_lcT (fun k => endD (spot k)) (fun k hk => ?_) ?_
  · have q := q_spot (a := k)
    have ei : (if 0 < (k : Int) then (1 : Int) else 0) = if 0 < k then 1 else 0 := by
      by_cases c : 0 < k
      · rw [if_pos c, if_pos (by omega)]
      · rw [if_neg c, if_neg (by omega)]
    rw [ei] at q
    simp -implicitDefEqProofs [q]
  simp -implicitDefEqProofs
  refine a_room d2 (by omega) fun r cs3 r0 r1' d3 => ?_
  simp -implicitDefEqProofs
  exact hq ⟨spot r1, spot r3, r⟩ cs3 ⟨fun z => ne (spot_inj z), fun h e => spot_lt (by omega) e, fun h e => spot_lt (by omega) e, r0, r1'⟩ (d3.mono (by omega))
theorem a_deck {ns : List Int} {Q : List Cel → Prop} (h : ns.length ≤ 63) (hq : ∀ cs, DkA 0 cs → Q cs) : wp (F__law_deck_h [scrD (ns.map PyData.int)]) (tag Q) := by
  unfold F__law_deck_h
  refine wp_runD rfl ?_
  unfold X__law_deck_h
  simp -implicitDefEqProofs
  refine ⟨by omega, wp_lcT (fun i => .int (if i < 0 then -i else i)) (fun i hi => by simp -implicitDefEqProofs) ?_⟩
  have e : ns.map (fun i => PyData.int (if i < 0 then -i else i)) = (ns.map fun i => if i < 0 then -i else i).map PyData.int := by rw [List.map_map]; rfl
  rw [e]
  obtain ⟨ms, hms⟩ : ∃ ms, ms = ns.map fun (i : Int) => if i < 0 then -i else i := ⟨_, rfl⟩
  have ml : ms.length ≤ 63 := by rw [hms, List.length_map]; exact h
  rw [← hms]
  simp -implicitDefEqProofs
  refine ⟨by omega, wp_lc (fun i => decide ((1000000000000000000 : Int) ≤ i)) PyData.int (fun i hi => by simp -implicitDefEqProofs) ?_⟩
  simp -implicitDefEqProofs
  refine ⟨by omega, hq _ ⟨ms.filter fun i => decide ((1000000000000000000 : Int) ≤ i), ms ++ [(ms.length : Int) + 5], 0, by simp, ?_, by simp, by simp; omega, by omega, by omega⟩⟩
  exact Nat.le_trans (List.length_filter_le ..) ml
theorem a_web {b most many : Nat} {cs : List Cel} {far : Bool} {Q : PD × List Cel → Prop} (h : DkA b cs) (hb : b + 1000 ≤ 2 ^ 40) (m1 : 1 ≤ most) (m2 : most ≤ 8) (k1 : 1 ≤ many) (k2 : many ≤ 20) (hq : ∀ W cs', IsWeb W → DkA (b + 1000) cs' → Q (webD W, cs')) : wp (F__law_web cs [natD most, natD many, .bool far]) (tag Q) := by
  unfold F__law_web
  refine wp_runW rfl ?_
  unfold X__law_web
  simp -implicitDefEqProofs
  refine a_next h (by omega) (by omega) (by omega) fun r1 cs1 a1 d1 => ?_
  simp -implicitDefEqProofs
  refine a_next d1 (by omega) (by omega) (by omega) fun r2 cs2 a2 d2 => ?_
  obtain ⟨n, hn⟩ : ∃ n : Nat, n = 1 + r1 := ⟨_, rfl⟩
  obtain ⟨k, hk⟩ : ∃ k : Nat, k = 1 + r2 := ⟨_, rfl⟩
  have en : (1 : Int) + (r1 : Int) = (n : Int) := by omega
  have ek : (1 : Int) + (r2 : Int) = (k : Int) := by omega
  rw [en]
  simp -implicitDefEqProofs [ek]
  refine ⟨in62_nat (by omega), by omega, ?_⟩
  have em : ∀ {ds : List PD}, PyData.list ds = .list ds := rfl
  refine wp_wl (fun i ds ρ => ∃ (rs : List Road) (cs : List Cel) (z : Sl), ds = rs.map roadD ∧ rs.length = i ∧ (∀ x ∈ rs, OkRoad n x) ∧ ρ = [.own cs, .dat (natD most), .dat (natD many), .dat (.bool far), .dat (natD n), .un, .un, .un, .un, .un, z] ∧ DkA (b + 2 + 6 * i) cs) ⟨[], cs2, _, rfl, rfl, by simp, rfl, d2⟩ ?_ ?_
  · rintro i hi ds ρ ⟨rs, cs, z, rfl, hl, ho, rfl, d⟩
    have hi : i < k := by simpa using hi
    simp -implicitDefEqProofs
    refine a_road d (by omega) (by omega) (by omega) fun x cs' ok d' => ?_
    simp -implicitDefEqProofs
    refine ⟨rs ++ [x], cs', _, by simp, by simp [hl], fun y hy => ?_, rfl, d'.mono (by omega)⟩
    rcases List.mem_append.mp hy with h | h
    · exact ho y h
    · rw [List.mem_singleton.mp h]; exact ok
  rintro ds ρ ⟨rs, cs3, z, rfl, hl, ho, rfl, d3⟩
  have hl : rs.length = k := by simpa using hl
  have d3 : DkA (b + 2 + 6 * k) cs3 := by simpa using d3
  simp -implicitDefEqProofs
  refine wp_for (fun s ρ => ∃ (cs : List Cel) (oss : List (List (List Nat))) (z7 z8 z9 z10 : Sl), ρ = [.own cs, .dat (natD most), .dat (natD many), .dat (.bool far), .dat (natD n), .dat (.list (rs.map roadD)), .own (dats (oss.map fun os => .tuple (os.map natsD))), z7, z8, z9, z10] ∧ oss.length = s ∧ (∀ (j : Nat) (os : List (List Nat)), oss[j]? = some os → os.length = n ∧ ∀ (h : Nat) (l : List Nat), os[h]? = some l → l.Perm (atR rs j h)) ∧ DkA (b + 2 + 6 * k + 200 * s) cs) ⟨cs3, [], _, _, _, _, rfl, rfl, by simp, d3⟩ ?_ ?_
  · rintro s hs ρ ⟨cs, oss, z7, z8, z9, z10, rfl, ol, oo, d⟩
    have hs : s < 2 := by simpa using hs
    have es : ([PyData.int 0, .int 1] : List PD)[s] = natD s := by
      have : s = 0 ∨ s = 1 := by omega
      rcases this with rfl | rfl <;> rfl
    rw [es]
    unfold X__law_web_b2
    simp -implicitDefEqProofs
    refine ⟨in62_nat (by omega), ?_⟩
    refine wp_forR (fun h ρ => ∃ (cs : List Cel) (os : List (List Nat)) (z9 z10 : Sl), ρ = [.own cs, .dat (natD most), .dat (natD many), .dat (.bool far), .dat (natD n), .dat (.list (rs.map roadD)), .own (dats (oss.map fun os => .tuple (os.map natsD))), .dat (natD s), .own (dats (os.map natsD)), z9, z10] ∧ os.length = h ∧ (∀ (h : Nat) (l : List Nat), os[h]? = some l → l.Perm (atR rs s h)) ∧ DkA (b + 2 + 6 * k + 200 * s + 20 * h) cs) ⟨cs, [], _, _, rfl, rfl, by simp, d⟩ ?_ ?_
    · rintro h hh ρ ⟨cs, os, z9, z10, rfl, hol, hoo, d⟩
      have ll := atR_len (rs := rs) (s := s) (h := h)
      unfold X__law_web_b1
      simp -implicitDefEqProofs
      refine ⟨in62_nat (by omega), by omega, lc_at (s := s) (h := h) (fun k hk => ?_) (fun k => rfl) ?_⟩
      · have sd : atI [endD rs[k].b, endD rs[k].e, .int rs[k].r] (s : Int) = some (endD (side s rs[k])) := by
          have : s = 0 ∨ s = 1 := by omega
          rcases this with rfl | rfl <;> rfl
        simp -implicitDefEqProofs [atI_map hk, roadD, sd, eq_end]
      simp -implicitDefEqProofs
      refine a_order d (by omega) (by omega) fun es cs' p d' => ?_
      simp -implicitDefEqProofs
      refine ⟨by omega, cs', os ++ [es], _, _, by rw [List.map_append]; rfl, by simp; omega, ord_snoc hoo (by rw [hol]; exact p), d'.mono (by omega)⟩
    · rintro ρ ⟨cs, os, z9, z10, rfl, hol, hoo, d⟩
      simp -implicitDefEqProofs
      refine ⟨by omega, cs, oss ++ [os], _, _, _, _, by rw [List.map_append]; rfl, by simp; omega, fun j os' e => ?_, d.mono (by omega)⟩
      by_cases c : j < oss.length
      · rw [List.getElem?_append_left c] at e
        exact oo j os' e
      · rw [List.getElem?_append_right (by omega)] at e
        have : j - oss.length = 0 := by
          apply Classical.byContradiction
          intro z
          rw [List.getElem?_eq_none (by simp; omega)] at e
          exact nomatch e
        rw [this] at e
        simp at e
        subst e
        have : j = s := by omega
        subst this
        exact ⟨hol, hoo⟩
  · rintro ρ ⟨cs, oss, z7, z8, z9, z10, rfl, ol, oo, d⟩
    have ol : oss.length = 2 := by simpa using ol
    obtain ⟨gs, ts, rfl⟩ : ∃ gs ts, oss = [gs, ts] := by
      match oss, ol with
      | [gs, ts], _ => exact ⟨gs, ts, rfl⟩
    obtain ⟨g1, g2⟩ := oo 0 gs rfl
    obtain ⟨t1, t2⟩ := oo 1 ts rfl
    simp -implicitDefEqProofs [atI]
    have d : DkA (b + 2 + 6 * k + 200 * 2) cs := by simpa using d
    exact hq ⟨rs, gs, ts⟩ cs (mkWeb (m := n) (by omega) (by omega) (by omega) (by omega) ho g1 t1 g2 t2) (d.mono (by omega))
end Fn

namespace Fn
open PySem PySem.Spec PyProof.Rows L2 Uv
theorem e_wide {b : Nat} {cs : List Cel} {Q : PD × List Cel → Prop} (h : DkE b cs) (hb : b + 1000 ≤ 2 ^ 40) (hq : ∀ W cs', IsWeb W → DkE (b + 1000) cs' → Q (webD W, cs')) : wp (F__law_wide_d cs []) (tag Q) := by
  unfold F__law_wide_d
  refine wp_runW rfl ?_
  unfold X__law_wide_d
  refine wp_cut3 (fun R => ∀ (m : Nat) (rs : List Road) (cs : List Cel) (z3 z4 z5 z6 z7 z8 z9 : Sl), 1 ≤ m → m ≤ 8 → 1 ≤ rs.length → rs.length ≤ 20 → (∀ x ∈ rs, OkRoad m x) → DkE (b + 200) cs → wp (R [.own cs, .dat (natD m), .own (dats (rs.map roadD)), z3, z4, z5, z6, z7, z8, z9]) (tag (endW (tag Q)))) ?_ ?_
  · intro m rs cs z3 z4 z5 z6 z7 z8 z9 m1 m2 l1 l2 ho d
    simp -implicitDefEqProofs
    refine ⟨in62_nat (by omega), ?_⟩
    refine wp_forR (fun k ρ => ∃ (cs : List Cel) (gs ts : List (List Nat)) (z3 z4 z5 z6 z9 : Sl), ρ = [.own cs, .dat (natD m), .dat (.list (rs.map roadD)), z3, z4, z5, z6, .own (dats (gs.map natsD)), .own (dats (ts.map natsD)), z9] ∧ gs.length = k ∧ ts.length = k ∧ (∀ (h : Nat) (l : List Nat), gs[h]? = some l → l.Perm (atR rs 0 h)) ∧ (∀ (h : Nat) (l : List Nat), ts[h]? = some l → l.Perm (atR rs 1 h)) ∧ DkE (b + 200 + 40 * k) cs) ⟨cs, [], [], _, _, _, _, _, rfl, rfl, rfl, by simp, by simp, d⟩ ?_ ?_
    · rintro i hi ρ ⟨cs, gs, ts, z3, z4, z5, z6, z9, rfl, g1, t1, pg, pt, d⟩
      have ll := fun s => atR_len (rs := rs) (s := s) (h := i)
      unfold X__law_wide_d_b2
      simp -implicitDefEqProofs
      refine ⟨in62_nat (by omega), by omega, ?_⟩
      refine lc_at (s := 0) (h := i) (fun k hk => ?_) (fun k => rfl) ?_
      · simp -implicitDefEqProofs [atI_map hk, eq_end, side]
      simp -implicitDefEqProofs
      refine e_order d (by have := ll 0; omega) (by have := ll 0; omega) fun es cs1 pe d1 => ?_
      simp -implicitDefEqProofs
      refine ⟨by omega, in62_nat (by omega), by omega, ?_⟩
      refine lc_at (s := 1) (h := i) (fun k hk => ?_) (fun k => rfl) ?_
      · simp -implicitDefEqProofs [atI_map hk, eq_end, side]
      simp -implicitDefEqProofs
      refine e_order d1 (by have := ll 0; have := ll 1; omega) (by have := ll 1; omega) fun fs cs2 pf d2 => ?_
      simp -implicitDefEqProofs
      refine ⟨by omega, ⟨cs2, gs ++ [es], ts ++ [fs], _, _, _, _, _, by rw [List.map_append, List.map_append]; rfl, by simp [g1], by simp [t1], ord_snoc pg (by rw [g1]; exact pe), ord_snoc pt (by rw [t1]; exact pf), d2.mono (by have := ll 0; have := ll 1; omega)⟩⟩
    · rintro ρ ⟨cs, gs, ts, z3, z4, z5, z6, z9, rfl, g1, t1, pg, pt, d⟩
      simp -implicitDefEqProofs
      exact hq ⟨rs, gs, ts⟩ cs (mkWeb (m := m) (by omega) (by omega) l1 (by omega) ho g1 t1 pg pt) (d.mono (by omega))
  · intro R main
    simp -implicitDefEqProofs
    refine e_next h (by omega) (by omega) (by omega) fun r1 cs1 a1 d1 => ?_
    obtain ⟨m, em⟩ : ∃ m : Nat, (1 + (r1 : Int)) = (m : Int) := ⟨1 + r1, by omega⟩
    simp -implicitDefEqProofs
    rw [em]
    refine e_next d1 (by omega) (by omega) (by omega) fun r2 cs2 a2 d2 => ?_
    obtain ⟨n, en⟩ : ∃ n : Nat, (1 + (r2 : Int)) = (n : Int) := ⟨1 + r2, by omega⟩
    simp -implicitDefEqProofs
    rw [en]
    refine ⟨in62_nat (by omega), ?_⟩
    rw [Int.toNat_natCast]
    refine wp_forR (fun k ρ => ∃ (cs : List Cel) (rs : List Road) (z3 z4 z5 z6 z7 z8 z9 : Sl), ρ = [.own cs, .dat (natD m), .own (dats (rs.map roadD)), z3, z4, z5, z6, z7, z8, z9] ∧ rs.length = k ∧ (∀ x ∈ rs, OkRoad m x) ∧ DkE (b + 2 + 5 * k) cs) ⟨cs2, [], _, _, _, _, _, _, _, rfl, rfl, by simp, d2⟩ ?_ ?_
    · rintro i hi ρ ⟨cs, rs, z3, z4, z5, z6, z7, z8, z9, rfl, hl, ho, d⟩
      unfold X__law_wide_d_b1
      simp -implicitDefEqProofs [cat_spots (show m ≤ 1000 by omega)]
      refine ⟨rg_nat (by omega), ?_⟩
      refine e_next d (by omega) (by rw [spots_len]; omega) (by rw [spots_len]; omega) fun r1 cs2 a2 d2 => ?_
      have hr1 : r1 < (spots m).length := by omega
      have sl := spots_len (n := m)
      simp -implicitDefEqProofs [ixN_nat' hr1, datAt_map hr1, erase_map]
      refine ⟨in63e_nat (by omega), ?_⟩
      have el : ((spots m).eraseIdx r1).length = m := by rw [List.length_eraseIdx, if_pos hr1]; omega
      refine e_next d2 (by omega) (by omega) (by omega) fun r3 cs3 a3 d3 => ?_
      simp -implicitDefEqProofs
      refine e_next d3 (by omega) (by omega) (by omega) fun r4 cs4 a4 d4 => ?_
      simp -implicitDefEqProofs
      refine e_next d4 (by omega) (by omega) (by omega) fun r5 cs5 a5 d5 => ?_
      simp -implicitDefEqProofs
      refine wp_pick (by simp; omega) fun x hx => ?_
      obtain ⟨q, rfl, q0, q1⟩ : ∃ q : Int, x = .int q ∧ 0 ≤ q ∧ q ≤ 1000000000000 := by
        simp at hx
        rcases hx with rfl | rfl | rfl | rfl | rfl <;> exact ⟨_, rfl, by omega, by omega⟩
      simp -implicitDefEqProofs
      refine e_one d5 (by omega) (fun z => by rw [z] at el; simp at el; omega) (by omega) fun y hy cs6 d6 => ?_
      simp -implicitDefEqProofs
      refine ⟨by omega, ⟨cs6, rs ++ [⟨(spots m)[r1], y, q⟩], _, _, _, _, _, _, _, by rw [List.map_append]; rfl, by simp; omega, fun x hx => ?_, d6.mono (by omega)⟩⟩
      rcases List.mem_append.mp hx with h | h
      · exact ho x h
      · rw [List.mem_singleton.mp h]
        exact ⟨erase_ne spots_nodup hr1 hy, spots_mem (List.getElem_mem hr1), spots_mem (erase_mem hy), q0, q1⟩
    · rintro ρ ⟨cs, rs, z3, z4, z5, z6, z7, z8, z9, rfl, hl, ho, d⟩
      simp -implicitDefEqProofs
      exact main m rs cs _ _ _ _ _ _ _ (by omega) (by omega) (by omega) (by omega) ho (d.mono (by omega))
theorem cut_63E {ns : List Int} (h : ns.length ≤ 63) : Uv.cutD (ns.map PyData.int) none (some 63) = ns.map PyData.int := by
  unfold Uv.cutD
  rw [HT.sIx_none, show (some (63 : Int)) = some ((63 : Nat) : Int) from rfl, HT.sIx_nat, List.length_map, Nat.min_eq_right h]
  exact List.take_of_length_le (by simp)
/-- the deck of a script -/
theorem e_deck {ns : List Int} {Q : List Cel → Prop} (h : ns.length ≤ 63) (hq : ∀ cs, DkE 0 cs → Q cs) : wp (F__law_deck_f [scrD (ns.map PyData.int)]) (tag Q) := by
  unfold F__law_deck_f
  refine wp_runD rfl ?_
  unfold X__law_deck_f
  have e : Uv.cutD (ns.map PyData.int) none (some 63) = ns.map PyData.int := cut_63E h
  simp -implicitDefEqProofs [e]
  refine ⟨by omega, ?_⟩
  refine wp_lcT (fun i => .int (if i < 0 then -i else i)) (fun i hi => ?_) ?_
  · simp -implicitDefEqProofs
  simp -implicitDefEqProofs
  refine hq _ ⟨ns.map fun i => if i < 0 then -i else i, 0, 0, 0, ?_, by simpa using h, by omega, by omega, by omega⟩
  simp
end Fn

namespace Fn
open PySem PySem.Spec PyProof.Rows L2 Uv
/-! the program: what several files ask -/
@[simp] theorem p_is_number {i : Int} : F_is_number [.int i] = some (.bool true) := by
  unfold F_is_number
  refine eq_of_wp (wp_runP rfl ?_)
  unfold X_is_number
  simp -implicitDefEqProofs
@[simp] theorem p_is_number_to {i m : Int} : F_is_number_to [.int i, .int m] = some (.bool (decide (0 ≤ i) && decide (i ≤ m))) := by
  unfold F_is_number_to
  refine eq_of_wp (wp_runP rfl ?_)
  unfold X_is_number_to
  simp -implicitDefEqProofs
@[simp] theorem p_is_tuple_of {ds : List PD} {a b : Int} : F_is_tuple_of [.tuple ds, .int a, .int b] = some (.bool (decide (a ≤ ds.length) && decide ((ds.length : Int) ≤ b))) := by
  unfold F_is_tuple_of
  refine eq_of_wp (wp_runP rfl ?_)
  unfold X_is_tuple_of
  simp -implicitDefEqProofs
theorem q_sortP {l m : List Nat} (p : l.Perm m) (hs : m.Pairwise (· < ·)) : sortP (natsD l) = some (.list (m.map natD)) := by
  rw [q_sort, sort_perm p hs, List.map_map]
  rfl
theorem eq_natsL {l m : List Nat} : eqP (.list (l.map natD)) (.list (m.map natD)) = some (.bool (l == m)) := by
  rw [eqP_lay Lay.natsL Lay.natsL, ← eqv_nats]
  rfl
theorem p_is_order {l m : List Nat} (p : l.Perm m) (hs : m.Pairwise (· < ·)) (hl : l.length ≤ 40000) : F_is_order [natsD l, .list (m.map natD)] = some (.bool true) := by
  unfold F_is_order
  refine eq_of_wp (wp_runP rfl ?_)
  unfold X_is_order
  simp -implicitDefEqProofs
  refine ⟨hl, wp_lcT (fun _ => .bool true) (fun x hx => by simp -implicitDefEqProofs) ?_⟩
  simp -implicitDefEqProofs [q_all, q_sortP p hs, eq_natsL]
/-! fairs -/
def tside (s : Nat) (x : Tie) : Nat := if s = 0 then x.g else x.t
/-- the ties of a seat -/
def atT (ts : List Tie) (s k : Nat) : List Nat := (ts.zipIdx.filter fun p => tside s p.1 == k).map (·.2)
structure OkTie (g t : Nat) (x : Tie) : Prop where
  g : x.g < g
  t : x.t < t
  r0 : 0 ≤ x.r
  r1 : x.r ≤ 1000000000000000
structure OkSeat (ts : List Tie) (s k : Nat) (x : Seat) : Prop where
  m0 : 0 ≤ x.much
  m1 : x.much ≤ 1000000000000000
  p : x.order.Perm (atT ts s k)
structure IsFair (F : Fair) : Prop where
  g : 1 ≤ F.givers.length ∧ F.givers.length ≤ 28
  t : 1 ≤ F.takers.length ∧ F.takers.length ≤ 28
  n : F.ties.length ≤ 36
  tie : ∀ x ∈ F.ties, OkTie F.givers.length F.takers.length x
  give : ∀ (k : Nat) (x : Seat), F.givers[k]? = some x → OkSeat F.ties 0 k x
  take : ∀ (k : Nat) (x : Seat), F.takers[k]? = some x → OkSeat F.ties 1 k x
theorem atT_sorted (ts : List Tie) (s k : Nat) : (atT ts s k).Pairwise (· < ·) := (zip_sorted ts 0 _).1
theorem atT_len {ts : List Tie} {s k : Nat} : (atT ts s k).length ≤ ts.length := by
  unfold atT
  rw [List.length_map]
  exact Nat.le_trans (List.length_filter_le _ _) (by simp)
theorem atT_lt {ts : List Tie} {s k j : Nat} (h : j ∈ atT ts s k) : j < ts.length := by
  unfold atT at h
  obtain ⟨⟨x, i⟩, h1, rfl⟩ := List.mem_map.mp h
  have h3 := List.mem_zipIdx (List.mem_filter.mp h1).1
  simp at h3
  omega
theorem p_is_tie {x : Tie} {g t : Nat} (h : OkTie g t x) : F_is_tie [tieD x, natD g, natD t] = some (.bool true) := by
  have h1 := h.g
  have h2 := h.t
  have h3 := h.r0
  have h4 := h.r1
  unfold F_is_tie
  refine eq_of_wp (wp_runP rfl ?_)
  unfold X_is_tie
  have e : F_is_tuple_of [tieD x, .int 3, .int 3] = some (.bool true) := p_is_tuple_of (ds := [natD x.g, natD x.t, .int x.r])
  simp -implicitDefEqProofs [e]
  omega
theorem p_is_seat {ts : List Tie} {s k : Nat} {x : Seat} (h : OkSeat ts s k x) (hl : ts.length ≤ 36) : F_is_seat [seatD x, .list ((atT ts s k).map natD)] = some (.bool true) := by
  have h3 := h.m0
  have h4 := h.m1
  unfold F_is_seat
  refine eq_of_wp (wp_runP rfl ?_)
  unfold X_is_seat
  have e : F_is_tuple_of [seatD x, .int 2, .int 2] = some (.bool true) := p_is_tuple_of (ds := [.int x.much, natsD x.order])
  have e2 := p_is_order h.p (atT_sorted ts s k) (by rw [h.p.length_eq]; have := atT_len (ts := ts) (s := s) (k := k); omega)
  simp -implicitDefEqProofs [e, e2]
  omega
theorem p_are_seats {ts : List Tie} {s : Nat} {xs : List Seat} (h : ∀ (k : Nat) (x : Seat), xs[k]? = some x → OkSeat ts s k x) (hl : ts.length ≤ 36) (hx : xs.length ≤ 28) : F_are_seats [.tuple (xs.map seatD), .list (ts.map fun x => natD (tside s x))] = some (.bool true) := by
  unfold F_are_seats
  refine eq_of_wp (wp_runP rfl ?_)
  unfold X_are_seats
  simp -implicitDefEqProofs
  refine ⟨by omega, wp_lcET (fun _ => .bool true) (fun k hk => ?_) ?_⟩
  · simp -implicitDefEqProofs
    refine ⟨by omega, ?_⟩
    rw [show (ts.map fun x => natD (tside s x)) = (ts.map (tside s)).map natD by rw [List.map_map]; rfl]
    refine wp_lcE (fun p => p.1 == k) (fun p => natD p.2) (fun i hi => ?_) ?_
    · simp -implicitDefEqProofs
      exact Bool.eq_iff_iff.mpr (by simp; omega)
    · have e : (((ts.map (tside s)).zipIdx.filter fun p => p.1 == k).map fun p => natD p.2) = (atT ts s k).map natD := by
        unfold atT
        rw [List.zipIdx_map, List.filter_map, List.map_map, List.map_map]
        rfl
      rw [e]
      simp -implicitDefEqProofs [p_is_seat (h k xs[k] (List.getElem?_eq_getElem hk)) hl]
  · simp -implicitDefEqProofs [q_all]
theorem p_is_fair {F : Fair} (h : IsFair F) : F_is_fair [fairD F] = some (.bool true) := by
  have hg := h.g
  have ht := h.t
  have hn := h.n
  unfold F_is_fair
  refine eq_of_wp (wp_runP rfl ?_)
  unfold X_is_fair
  have e : F_is_tuple_of [fairD F, .int 3, .int 3] = some (.bool true) := p_is_tuple_of (ds := [.tuple (F.ties.map tieD), .tuple (F.givers.map seatD), .tuple (F.takers.map seatD)])
  simp -implicitDefEqProofs [e]
  refine wp_alt (fun c => ?_) (fun c => ?_)
  · simp at c
    omega
  · simp -implicitDefEqProofs
    refine ⟨by omega, wp_lcT (fun _ => .bool true) (fun x hx => ?_) ?_⟩
    · simp -implicitDefEqProofs [p_is_tie (h.tie x hx)]
    · simp -implicitDefEqProofs [q_all]
      refine ⟨by omega, wp_lcT (fun x => natD (tside 0 x)) (fun x hx => by simp -implicitDefEqProofs [tside]) ?_⟩
      simp -implicitDefEqProofs [p_are_seats (s := 0) h.give hn hg.2]
      refine ⟨by omega, wp_lcT (fun x => natD (tside 1 x)) (fun x hx => by simp -implicitDefEqProofs [tside]) ?_⟩
      simp -implicitDefEqProofs [p_are_seats (s := 1) h.take hn ht.2]
end Fn

namespace Fn
open PySem PySem.Spec PyProof.Rows L2 Uv
/-! the program: webs led to fairs -/
def doorP (W : Web) (s : Nat) : List (Road × Nat) := W.roads.zipIdx.filter fun p => (side s p.1).isNone
def doorsOf (W : Web) (s : Nat) : List Nat := (doorP W s).map (·.2)
def bigOf (W : Web) : Int := (W.roads.map (·.r)).sum + 1
def seatOf (W : Web) (s : Nat) (p : Road × Nat) : Nat := match side s p.1 with
  | none => W.gives.length + (doorsOf W s).idxOf p.2
  | some h => h
def roadTies (W : Web) : List Tie := W.roads.zipIdx.map fun p => ⟨seatOf W 0 p, seatOf W 1 p, p.1.r⟩
def houseTies (W : Web) : List Tie := (List.range W.gives.length).flatMap fun h => [⟨h, h, bigOf W⟩, ⟨h, h, bigOf W⟩]
def lyingOf (W : Web) (h : Nat) : Nat := W.roads.length + 2 * h
def doorSeats (W : Web) (s : Nat) : List Seat := (doorP W s).map fun p => ⟨p.1.r, [p.2]⟩
def giversOf (W : Web) : List Seat := (W.gives.zipIdx.map fun p => ⟨bigOf W, lyingOf W p.2 :: (p.1 ++ [lyingOf W p.2 + 1])⟩) ++ doorSeats W 0
def takersOf (W : Web) : List Seat := (W.takes.zipIdx.map fun p => ⟨bigOf W, (lyingOf W p.2 + 1) :: (p.1 ++ [lyingOf W p.2])⟩) ++ doorSeats W 1
def fairOf (W : Web) : Fair := ⟨roadTies W ++ houseTies W, giversOf W, takersOf W⟩
theorem doorP_mem {W : Web} {s : Nat} {p : Road × Nat} (h : p ∈ doorP W s) : ∃ hk : p.2 < W.roads.length, W.roads[p.2] = p.1 ∧ side s p.1 = none := by
  unfold doorP at h
  obtain ⟨h1, h2⟩ := List.mem_filter.mp h
  obtain ⟨x, i⟩ := p
  obtain ⟨h3, h4⟩ := List.mem_zipIdx' h1
  exact ⟨h3, h4.symm, by simpa using h2⟩
theorem doors_len {W : Web} {s : Nat} : (doorP W s).length ≤ W.roads.length := by
  unfold doorP
  exact Nat.le_trans (List.length_filter_le _ _) (by simp)
theorem p_in_doors {W : Web} (hw : IsWeb W) : F_in_doors [webD W] = some (natsD (doorsOf W 0)) := by
  have hc := hw.count
  unfold F_in_doors
  refine eq_of_wp (wp_runP rfl ?_)
  unfold X_in_doors
  simp -implicitDefEqProofs
  refine ⟨by omega, wp_lcE (fun p => (side 0 p.1).isNone) (fun p => natD p.2) (fun i hi => by simp -implicitDefEqProofs [side]) ?_⟩
  simp -implicitDefEqProofs
  unfold doorsOf natsD doorP
  rw [List.map_map]
  rfl
theorem p_out_doors {W : Web} (hw : IsWeb W) : F_out_doors [webD W] = some (natsD (doorsOf W 1)) := by
  have hc := hw.count
  unfold F_out_doors
  refine eq_of_wp (wp_runP rfl ?_)
  unfold X_out_doors
  simp -implicitDefEqProofs
  refine ⟨by omega, wp_lcE (fun p => (side 1 p.1).isNone) (fun p => natD p.2) (fun i hi => by simp -implicitDefEqProofs [side]) ?_⟩
  simp -implicitDefEqProofs
  unfold doorsOf natsD doorP
  rw [List.map_map]
  rfl
theorem p_big_of {W : Web} (hw : IsWeb W) : F_big_of [webD W] = some (.int (bigOf W)) := by
  have hc := hw.count
  unfold F_big_of
  refine eq_of_wp (wp_runP rfl ?_)
  unfold X_big_of
  simp -implicitDefEqProofs
  refine ⟨by omega, wp_lcT (fun x => .int x.r) (fun x hx => by simp -implicitDefEqProofs) ?_⟩
  simp -implicitDefEqProofs [q_sum]
  rfl
theorem p_lying {W : Web} {h : Nat} : F_lying [webD W, natD h] = some (natD (lyingOf W h)) := by
  unfold F_lying
  refine eq_of_wp (wp_runP rfl ?_)
  unfold X_lying
  simp -implicitDefEqProofs
  rfl
theorem p_standing {W : Web} {h : Nat} : F_standing [webD W, natD h] = some (natD (lyingOf W h + 1)) := by
  unfold F_standing
  refine eq_of_wp (wp_runP rfl ?_)
  unfold X_standing
  simp -implicitDefEqProofs [p_lying]
theorem p_door_seats {W : Web} {s : Nat} (hw : IsWeb W) : F_door_seats [webD W, natsD (doorsOf W s)] = some (.list ((doorSeats W s).map seatD)) := by
  have hc := hw.count
  have hd := doors_len (W := W) (s := s)
  unfold F_door_seats
  refine eq_of_wp (wp_runP rfl ?_)
  unfold X_door_seats
  simp -implicitDefEqProofs
  refine ⟨by unfold doorsOf; simp; omega, ?_⟩
  rw [show (doorsOf W s).map natD = (doorP W s).map fun p => natD p.2 by unfold doorsOf; rw [List.map_map]; rfl]
  refine wp_lcT (fun p => seatD ⟨p.1.r, [p.2]⟩) (fun p hp => ?_) ?_
  · obtain ⟨h1, h2, h3⟩ := doorP_mem hp
    simp -implicitDefEqProofs [atI_map h1, h2]
    rfl
  · simp -implicitDefEqProofs
    unfold doorSeats
    rw [List.map_map]
    rfl
theorem give_len {W : Web} (hw : IsWeb W) {i : Nat} (hi : i < W.gives.length) : W.gives[i].length ≤ 20 := by
  rw [(hw.give i _ (List.getElem?_eq_getElem hi)).length_eq]
  unfold atR
  rw [List.length_map]
  exact Nat.le_trans (List.length_filter_le _ _) (by simpa using hw.count.2)
theorem take_len {W : Web} (hw : IsWeb W) {i : Nat} (hi : i < W.takes.length) : W.takes[i].length ≤ 20 := by
  rw [(hw.take i _ (List.getElem?_eq_getElem hi)).length_eq]
  unfold atR
  rw [List.length_map]
  exact Nat.le_trans (List.length_filter_le _ _) (by simpa using hw.count.2)
theorem p_givers_of {W : Web} (hw : IsWeb W) : F_givers_of [webD W] = some (.tuple ((giversOf W).map seatD)) := by
  have hc := hw.count
  have hh := hw.houses
  have hd := doors_len (W := W) (s := 0)
  unfold F_givers_of
  refine eq_of_wp (wp_runP rfl ?_)
  unfold X_givers_of
  simp -implicitDefEqProofs [p_big_of hw]
  refine ⟨by omega, wp_lcET (fun p => seatD ⟨bigOf W, lyingOf W p.2 :: (p.1 ++ [lyingOf W p.2 + 1])⟩) (fun i hi => ?_) ?_⟩
  · simp -implicitDefEqProofs [p_lying, p_standing]
    refine ⟨by have := give_len hw hi; omega, ?_⟩
    unfold seatD natsD
    simp
  · simp -implicitDefEqProofs [p_in_doors hw, p_door_seats hw]
    refine ⟨by unfold doorSeats; simp; omega, ?_⟩
    unfold giversOf
    rw [List.map_append, List.map_map]
    rfl
theorem p_takers_of {W : Web} (hw : IsWeb W) : F_takers_of [webD W] = some (.tuple ((takersOf W).map seatD)) := by
  have hc := hw.count
  have hh := hw.houses
  have hs := hw.same
  have hd := doors_len (W := W) (s := 1)
  unfold F_takers_of
  refine eq_of_wp (wp_runP rfl ?_)
  unfold X_takers_of
  simp -implicitDefEqProofs [p_big_of hw]
  refine ⟨by omega, wp_lcET (fun p => seatD ⟨bigOf W, (lyingOf W p.2 + 1) :: (p.1 ++ [lyingOf W p.2])⟩) (fun i hi => ?_) ?_⟩
  · simp -implicitDefEqProofs [p_lying, p_standing]
    refine ⟨by have := take_len hw hi; omega, ?_⟩
    unfold seatD natsD
    simp
  · simp -implicitDefEqProofs [p_out_doors hw, p_door_seats hw]
    refine ⟨by unfold doorSeats; simp; omega, ?_⟩
    unfold takersOf
    rw [List.map_append, List.map_map]
    rfl
theorem door_in {W : Web} {s i : Nat} (hi : i < W.roads.length) (h : side s W.roads[i] = none) : i ∈ doorsOf W s := by
  unfold doorsOf doorP
  refine List.mem_map.mpr ⟨(W.roads[i], i), List.mem_filter.mpr ⟨?_, by simp [h]⟩, rfl⟩
  exact List.mem_zipIdx_iff_getElem?.mpr (List.getElem?_eq_getElem hi)
theorem p_road_ties {W : Web} (hw : IsWeb W) : F_road_ties [webD W] = some (.tuple ((roadTies W).map tieD)) := by
  have hc := hw.count
  unfold F_road_ties
  refine eq_of_wp (wp_runP rfl ?_)
  unfold X_road_ties
  simp -implicitDefEqProofs [p_in_doors hw, p_out_doors hw]
  refine wp_forE (fun k ρ => ∃ (ds : List PD) (z5 z6 z7 z8 z9 z10 : Sl), ρ = [.dat (webD W), .dat (natsD (doorsOf W 0)), .dat (natsD (doorsOf W 1)), .dat (natD W.gives.length), .own (dats ds), z5, z6, z7, z8, z9, z10] ∧ ds = ((roadTies W).take k).map tieD) ⟨[], _, _, _, _, _, _, rfl, rfl⟩ ?_ ?_
  · rintro i hi ρ ⟨ds, z5, z6, z7, z8, z9, z10, rfl, hds⟩
    have dl : ds.length ≤ i := by rw [hds]; simp; omega
    unfold X_road_ties_b1
    have hl : i < (roadTies W).length := by unfold roadTies; simpa using hi
    have ht : (roadTies W)[i] = ⟨seatOf W 0 (W.roads[i], i), seatOf W 1 (W.roads[i], i), W.roads[i].r⟩ := by simp only [roadTies, List.getElem_map, List.getElem_zipIdx, Nat.zero_add]
    have fin : ((roadTies W).take (i + 1)).map tieD = ((roadTies W).take i).map tieD ++ [tieD (roadTies W)[i]] := by rw [List.take_succ_eq_append_getElem hl, List.map_append]; rfl
    cases hb : W.roads[i].b with
    | none =>
      have m0 := n_idx (door_in (s := 0) hi (by simpa [side] using hb))
      cases he : W.roads[i].e with
      | none =>
        have m1 := n_idx (door_in (s := 1) hi (by simpa [side] using he))
        simp -implicitDefEqProofs [hb, he, q_idx, m0, m1]
        refine ⟨by omega, ⟨_, _, _, _, _, _, _, rfl, ?_⟩⟩
        rw [fin, ht, hds]
        simp [tieD, seatOf, side, hb, he]
      | some t =>
        simp -implicitDefEqProofs [hb, he, q_idx, m0, endD]
        refine ⟨by omega, ⟨_, _, _, _, _, _, _, rfl, ?_⟩⟩
        rw [fin, ht, hds]
        simp [tieD, seatOf, side, hb, he]
    | some g =>
      cases he : W.roads[i].e with
      | none =>
        have m1 := n_idx (door_in (s := 1) hi (by simpa [side] using he))
        simp -implicitDefEqProofs [hb, he, q_idx, m1, endD]
        refine ⟨by omega, ⟨_, _, _, _, _, _, _, rfl, ?_⟩⟩
        rw [fin, ht, hds]
        simp [tieD, seatOf, side, hb, he]
      | some t =>
        simp -implicitDefEqProofs [hb, he, q_idx, endD]
        refine ⟨by omega, ⟨_, _, _, _, _, _, _, rfl, ?_⟩⟩
        rw [fin, ht, hds]
        simp [tieD, seatOf, side, hb, he]
  · rintro ρ ⟨ds, z5, z6, z7, z8, z9, z10, rfl, rfl⟩
    simp -implicitDefEqProofs
    rw [List.take_of_length_le (by unfold roadTies; simp)]
theorem p_house_ties {W : Web} (hw : IsWeb W) : F_house_ties [webD W] = some (.tuple ((houseTies W).map tieD)) := by
  have hh := hw.houses
  unfold F_house_ties
  refine eq_of_wp (wp_runP rfl ?_)
  unfold X_house_ties
  simp -implicitDefEqProofs [p_big_of hw]
  refine ⟨in62_nat (by omega), ?_⟩
  refine wp_forR (fun k ρ => ∃ (ds : List PD) (z3 : Sl), ρ = [.dat (webD W), .dat (.int (bigOf W)), .own (dats ds), z3] ∧ ds = ((List.range k).flatMap fun h => [(⟨h, h, bigOf W⟩ : Tie), ⟨h, h, bigOf W⟩]).map tieD ∧ ds.length = 2 * k) ⟨[], _, rfl, rfl, rfl⟩ ?_ ?_
  · rintro i hi ρ ⟨ds, z3, rfl, hds, hl⟩
    unfold X_house_ties_b1
    simp -implicitDefEqProofs
    refine ⟨by omega, ⟨_, _, rfl, ?_, by simp; omega⟩⟩
    rw [List.range_succ, List.flatMap_append, List.map_append, ← hds]
    simp [tieD]
  · rintro ρ ⟨ds, z3, rfl, rfl, hl⟩
    simp -implicitDefEqProofs
    rfl
theorem house_len {W : Web} : (houseTies W).length = 2 * W.gives.length := by
  unfold houseTies
  generalize W.gives.length = n
  induction n with
  | zero => rfl
  | succ n ih => rw [List.range_succ, List.flatMap_append, List.length_append, ih]; simp; omega
theorem p_fair_of {W : Web} (hw : IsWeb W) : F_fair_of [webD W] = some (fairD (fairOf W)) := by
  unfold F_fair_of
  refine eq_of_wp (wp_runP rfl ?_)
  unfold X_fair_of
  simp -implicitDefEqProofs [p_road_ties hw, p_house_ties hw, p_givers_of hw, p_takers_of hw]
  have hc := hw.count
  have hh := hw.houses
  refine ⟨by rw [house_len]; unfold roadTies; simp; omega, ?_⟩
  unfold fairD fairOf
  simp
end Fn

namespace Fn
open PySem PySem.Spec PyProof.Rows L2 Uv
/-! the fair of a web is a fair -/
theorem mem_atT {ts : List Tie} {s k j : Nat} : j ∈ atT ts s k ↔ ∃ x, ts[j]? = some x ∧ tside s x = k := by
  unfold atT
  constructor
  · intro h
    obtain ⟨⟨x, i⟩, h1, rfl⟩ := List.mem_map.mp h
    obtain ⟨h2, h3⟩ := List.mem_filter.mp h1
    exact ⟨x, List.mem_zipIdx_iff_getElem?.mp h2, by simpa using h3⟩
  · rintro ⟨x, h1, h2⟩
    exact List.mem_map.mpr ⟨(x, j), List.mem_filter.mpr ⟨List.mem_zipIdx_iff_getElem?.mpr h1, by simpa using h2⟩, rfl⟩
theorem mem_atR {rs : List Road} {s h j : Nat} : j ∈ atR rs s h ↔ ∃ x, rs[j]? = some x ∧ side s x = some h := by
  unfold atR
  constructor
  · intro h
    obtain ⟨⟨x, i⟩, h1, rfl⟩ := List.mem_map.mp h
    obtain ⟨h2, h3⟩ := List.mem_filter.mp h1
    exact ⟨x, List.mem_zipIdx_iff_getElem?.mp h2, by simpa using h3⟩
  · rintro ⟨x, h1, h2⟩
    exact List.mem_map.mpr ⟨(x, j), List.mem_filter.mpr ⟨List.mem_zipIdx_iff_getElem?.mpr h1, by simpa using h2⟩, rfl⟩
theorem mem_doors {W : Web} {s j : Nat} : j ∈ doorsOf W s ↔ ∃ x, W.roads[j]? = some x ∧ side s x = none := by
  unfold doorsOf doorP
  constructor
  · intro h
    obtain ⟨⟨x, i⟩, h1, rfl⟩ := List.mem_map.mp h
    obtain ⟨h2, h3⟩ := List.mem_filter.mp h1
    exact ⟨x, List.mem_zipIdx_iff_getElem?.mp h2, by simpa using h3⟩
  · rintro ⟨x, h1, h2⟩
    exact List.mem_map.mpr ⟨(x, j), List.mem_filter.mpr ⟨List.mem_zipIdx_iff_getElem?.mpr h1, by simp [h2]⟩, rfl⟩
theorem nodup_of_lt {l : List Nat} (h : l.Pairwise (· < ·)) : l.Nodup := h.imp fun h => by omega
theorem doors_sorted {W : Web} {s : Nat} : (doorsOf W s).Pairwise (· < ·) := (zip_sorted W.roads 0 _).1
theorem house_get {W : Web} {i : Nat} (h : i < 2 * W.gives.length) : (houseTies W)[i]? = some ⟨i / 2, i / 2, bigOf W⟩ := by
  unfold houseTies
  revert h
  generalize W.gives.length = n
  intro h
  have len : ∀ n : Nat, ((List.range n).flatMap fun h => [(⟨h, h, bigOf W⟩ : Tie), ⟨h, h, bigOf W⟩]).length = 2 * n := fun n => by
    induction n with
    | zero => rfl
    | succ n ih => rw [List.range_succ, List.flatMap_append, List.length_append, ih]; simp; omega
  induction n with
  | zero => omega
  | succ n ih =>
    rw [List.range_succ, List.flatMap_append]
    by_cases c : i < 2 * n
    · rw [List.getElem?_append_left (by rw [len]; exact c)]
      exact ih c
    · rw [List.getElem?_append_right (by rw [len]; omega), len]
      have : i = 2 * n ∨ i = 2 * n + 1 := by omega
      rcases this with rfl | rfl
      · simp
      · rw [show 2 * n + 1 - 2 * n = 1 by omega, show (2 * n + 1) / 2 = n by omega]
        simp
theorem tie_road {W : Web} {j : Nat} {x : Road} (h : W.roads[j]? = some x) : (fairOf W).ties[j]? = some ⟨seatOf W 0 (x, j), seatOf W 1 (x, j), x.r⟩ := by
  have hj : j < W.roads.length := (List.getElem?_eq_some_iff.mp h).1
  show (roadTies W ++ houseTies W)[j]? = _
  rw [List.getElem?_append_left (by unfold roadTies; simpa using hj)]
  unfold roadTies
  rw [List.getElem?_map, List.getElem?_zipIdx, h]
  simp
theorem tie_house {W : Web} {j : Nat} (h1 : W.roads.length ≤ j) (h2 : j < W.roads.length + 2 * W.gives.length) : (fairOf W).ties[j]? = some ⟨(j - W.roads.length) / 2, (j - W.roads.length) / 2, bigOf W⟩ := by
  have e : (roadTies W).length = W.roads.length := by unfold roadTies; simp
  show (roadTies W ++ houseTies W)[j]? = _
  rw [List.getElem?_append_right (by rw [e]; exact h1), e]
  exact house_get (by omega)
theorem ties_len {W : Web} : (fairOf W).ties.length = W.roads.length + 2 * W.gives.length := by
  show (roadTies W ++ houseTies W).length = _
  rw [List.length_append, house_len]
  unfold roadTies
  simp
theorem tside_seat {W : Web} {s : Nat} {p : Road × Nat} {r : Int} (hs : s < 2) : tside s ⟨seatOf W 0 p, seatOf W 1 p, r⟩ = seatOf W s p := by
  have : s = 0 ∨ s = 1 := by omega
  rcases this with rfl | rfl <;> rfl
theorem tside_same {s k : Nat} {r : Int} : tside s ⟨k, k, r⟩ = k := by unfold tside; split <;> rfl
/-- which ties a seat has -/
theorem mem_ties {W : Web} {s k j : Nat} (hs : s < 2) : j ∈ atT (fairOf W).ties s k ↔ (∃ x, W.roads[j]? = some x ∧ seatOf W s (x, j) = k) ∨ (W.roads.length ≤ j ∧ j < W.roads.length + 2 * W.gives.length ∧ (j - W.roads.length) / 2 = k) := by
  rw [mem_atT]
  constructor
  · rintro ⟨x, h1, h2⟩
    have hj := (List.getElem?_eq_some_iff.mp h1).1
    rw [ties_len] at hj
    by_cases c : j < W.roads.length
    · rw [tie_road (List.getElem?_eq_getElem c)] at h1
      cases h1
      rw [tside_seat hs] at h2
      exact .inl ⟨_, List.getElem?_eq_getElem c, h2⟩
    · rw [tie_house (by omega) hj] at h1
      cases h1
      rw [tside_same] at h2
      exact .inr ⟨by omega, hj, h2⟩
  · rintro (⟨x, h1, h2⟩ | ⟨h1, h2, h3⟩)
    · exact ⟨_, tie_road h1, by rw [tside_seat hs]; exact h2⟩
    · exact ⟨_, tie_house h1 h2, by rw [tside_same]; exact h3⟩
theorem sum_le {l : List Int} {m : Int} (h : ∀ x ∈ l, x ≤ m) : l.sum ≤ l.length * m := by
  induction l with
  | nil => simp
  | cons x xs ih =>
    have h1 := h x (List.mem_cons_self ..)
    have h2 := ih fun y hy => h y (List.mem_cons_of_mem _ hy)
    rw [List.sum_cons, List.length_cons, Int.natCast_add, Int.add_mul]
    omega
theorem sum_nn {l : List Int} (h : ∀ x ∈ l, 0 ≤ x) : 0 ≤ l.sum := by
  induction l with
  | nil => simp
  | cons x xs ih =>
    have h1 := h x (List.mem_cons_self ..)
    have h2 := ih fun y hy => h y (List.mem_cons_of_mem _ hy)
    rw [List.sum_cons]
    omega
theorem big_ok {W : Web} (hw : IsWeb W) : 1 ≤ bigOf W ∧ bigOf W ≤ 20000000000001 := by
  have hc := hw.count
  have h1 : 0 ≤ (W.roads.map (·.r)).sum := sum_nn fun x hx => by
    obtain ⟨y, hy, rfl⟩ := List.mem_map.mp hx
    exact (hw.road y hy).2.2.2.1
  have h2 : (W.roads.map (·.r)).sum ≤ (W.roads.map (·.r)).length * 1000000000000 := sum_le fun x hx => by
    obtain ⟨y, hy, rfl⟩ := List.mem_map.mp hx
    exact (hw.road y hy).2.2.2.2
  rw [List.length_map] at h2
  unfold bigOf
  omega
/-- the order of a house's seat -/
theorem seat_perm {W : Web} (hw : IsWeb W) {s k : Nat} {l : List Nat} {a b : Nat} (hs : s < 2) (hk : k < W.gives.length) (hp : l.Perm (atR W.roads s k)) (hab : (a = lyingOf W k ∧ b = lyingOf W k + 1) ∨ (a = lyingOf W k + 1 ∧ b = lyingOf W k)) : (a :: (l ++ [b])).Perm (atT (fairOf W).ties s k) := by
  have ht := nodup_of_lt (atT_sorted (fairOf W).ties s k)
  have hl : ∀ j ∈ l, j < W.roads.length := fun j hj => atR_lt (hp.mem_iff.mp hj)
  have nl : l.Nodup := hp.nodup_iff.mpr (nodup_of_lt (atR_sorted _ _ _))
  unfold lyingOf at hab
  have na : (a :: (l ++ [b])).Nodup := by
    rw [List.nodup_cons, List.nodup_append]
    refine ⟨fun h => ?_, nl, by simp, fun x hx y hy => ?_⟩
    · rcases List.mem_append.mp h with h | h
      · have := hl a h; omega
      · have := List.mem_singleton.mp h; omega
    · have := hl x hx
      have := List.mem_singleton.mp hy
      omega
  refine (List.perm_ext_iff_of_nodup na ht).mpr fun j => ?_
  rw [mem_ties hs, List.mem_cons, List.mem_append, List.mem_singleton, hp.mem_iff, mem_atR]
  constructor
  · rintro (h | ⟨x, h1, h2⟩ | h)
    · right; omega
    · left; exact ⟨x, h1, by unfold seatOf; rw [show side s (x, j).1 = some k from h2]⟩
    · right; omega
  · rintro (⟨x, h1, h2⟩ | ⟨h1, h2, h3⟩)
    · right; left
      refine ⟨x, h1, ?_⟩
      unfold seatOf at h2
      cases e : side s (x, j).1 with
      | none => rw [e] at h2; simp at h2; omega
      | some g => rw [e] at h2; simp at h2; rw [← h2]
    · omega
theorem idx_of {l : List Nat} (nd : l.Nodup) {d : Nat} (h : d < l.length) : l.idxOf l[d] = d := by
  induction l generalizing d with
  | nil => simp at h
  | cons x xs ih =>
    rw [List.nodup_cons] at nd
    cases d with
    | zero => simp
    | succ d =>
      have h' : d < xs.length := by simpa using h
      have ne : x ≠ xs[d] := fun e => nd.1 (by rw [e]; exact List.getElem_mem h')
      rw [List.getElem_cons_succ, List.idxOf_cons]
      rw [ih nd.2 h', show (x == xs[d]) = false by simpa using ne]
      rfl
theorem door_perm {W : Web} (hw : IsWeb W) {s d : Nat} {p : Road × Nat} (hs : s < 2) (hd : (doorP W s)[d]? = some p) : [p.2].Perm (atT (fairOf W).ties s (W.gives.length + d)) := by
  have ht := nodup_of_lt (atT_sorted (fairOf W).ties s (W.gives.length + d))
  have nd : (doorsOf W s).Nodup := nodup_of_lt doors_sorted
  obtain ⟨hk, h1, h2⟩ := doorP_mem (List.mem_of_getElem? hd)
  have hl : d < (doorsOf W s).length := by unfold doorsOf; simpa using (List.getElem?_eq_some_iff.mp hd).1
  have hv : (doorsOf W s)[d] = p.2 := by
    have : (doorsOf W s)[d]? = some p.2 := by unfold doorsOf; rw [List.getElem?_map, hd]; rfl
    exact (List.getElem?_eq_some_iff.mp this).2
  refine (List.perm_ext_iff_of_nodup (by simp) ht).mpr fun j => ?_
  rw [mem_ties hs, List.mem_singleton]
  constructor
  · rintro rfl
    left
    refine ⟨p.1, by rw [List.getElem?_eq_getElem hk, h1], ?_⟩
    unfold seatOf
    rw [h2]
    show W.gives.length + (doorsOf W s).idxOf p.2 = _
    rw [← hv, idx_of nd hl]
  · rintro (⟨x, g1, g2⟩ | ⟨g1, g2, g3⟩)
    · unfold seatOf at g2
      cases e : side s (x, j).1 with
      | none =>
        rw [e] at g2
        have g3 : (doorsOf W s).idxOf j = d := by have : W.gives.length + (doorsOf W s).idxOf j = W.gives.length + d := g2; omega
        have hm : j ∈ doorsOf W s := mem_doors.mpr ⟨x, g1, e⟩
        have := List.getElem_idxOf (List.idxOf_lt_length_iff.mpr hm)
        rw [← this, ← hv]
        congr 1
      | some g =>
        rw [e] at g2
        have g2 : g = W.gives.length + d := g2
        have hx := hw.road x (List.mem_of_getElem? g1)
        have : g < W.gives.length := by
          have : s = 0 ∨ s = 1 := by omega
          rcases this with rfl | rfl
          · exact hx.2.1 g (by simpa [side] using e)
          · exact hx.2.2.1 g (by simpa [side] using e)
        omega
    · omega
theorem seat_lt {W : Web} (hw : IsWeb W) {s j : Nat} {x : Road} (hs : s < 2) (h : W.roads[j]? = some x) : seatOf W s (x, j) < W.gives.length + (doorP W s).length := by
  have hx := hw.road x (List.mem_of_getElem? h)
  unfold seatOf
  cases e : side s (x, j).1 with
  | none =>
    have hm : j ∈ doorsOf W s := mem_doors.mpr ⟨x, h, e⟩
    have := List.idxOf_lt_length_iff.mpr hm
    have e2 : (doorsOf W s).length = (doorP W s).length := by unfold doorsOf; simp
    show W.gives.length + (doorsOf W s).idxOf j < _
    omega
  | some g =>
    show g < _
    have : s = 0 ∨ s = 1 := by omega
    rcases this with rfl | rfl
    · have := hx.2.1 g (by simpa [side] using e); omega
    · have := hx.2.2.1 g (by simpa [side] using e); omega
theorem fair_ok {W : Web} (hw : IsWeb W) : IsFair (fairOf W) := by
  have hc := hw.count
  have hh := hw.houses
  have hm := hw.same
  have hb := big_ok hw
  have d0 := doors_len (W := W) (s := 0)
  have d1 := doors_len (W := W) (s := 1)
  have lg : (fairOf W).givers.length = W.gives.length + (doorP W 0).length := by show (giversOf W).length = _; unfold giversOf doorSeats; simp
  have lt : (fairOf W).takers.length = W.gives.length + (doorP W 1).length := by show (takersOf W).length = _; unfold takersOf doorSeats; simp [hm]
  refine ⟨by omega, by omega, by rw [ties_len]; omega, fun x hx => ?_, fun k x hk => ?_, fun k x hk => ?_⟩
  · obtain ⟨j, hj⟩ := List.getElem?_of_mem hx
    have hl := (List.getElem?_eq_some_iff.mp hj).1
    rw [ties_len] at hl
    rw [lg, lt]
    by_cases c : j < W.roads.length
    · have hr := List.getElem?_eq_getElem c
      rw [tie_road hr] at hj
      cases hj
      have ho := hw.road _ (List.mem_of_getElem? hr)
      exact ⟨seat_lt hw (by omega) hr, seat_lt hw (by omega) hr, ho.2.2.2.1, by have := ho.2.2.2.2; show W.roads[j].r ≤ _; omega⟩
    · rw [tie_house (by omega) hl] at hj
      cases hj
      exact ⟨by show (j - W.roads.length) / 2 < _; omega, by show (j - W.roads.length) / 2 < _; omega, by show 0 ≤ bigOf W; omega, by show bigOf W ≤ _; omega⟩
  · have hk : (giversOf W)[k]? = some x := hk
    unfold giversOf at hk
    by_cases c : k < W.gives.length
    · rw [List.getElem?_append_left (by simpa using c), List.getElem?_map, List.getElem?_zipIdx, List.getElem?_eq_getElem c] at hk
      simp at hk
      subst hk
      exact ⟨by show 0 ≤ bigOf W; omega, by show bigOf W ≤ _; omega, seat_perm hw (by omega) c (hw.give k _ (List.getElem?_eq_getElem c)) (.inl ⟨rfl, rfl⟩)⟩
    · rw [List.getElem?_append_right (by simp; omega)] at hk
      simp only [List.length_map, List.length_zipIdx] at hk
      unfold doorSeats at hk
      rw [List.getElem?_map] at hk
      cases e : (doorP W 0)[k - W.gives.length]? with
      | none => rw [e] at hk; cases hk
      | some p =>
        rw [e] at hk
        cases hk
        obtain ⟨g1, g2, g3⟩ := doorP_mem (List.mem_of_getElem? e)
        have ho := hw.road _ (List.getElem_mem g1)
        rw [g2] at ho
        have pp := door_perm hw (by omega) e
        rw [show W.gives.length + (k - W.gives.length) = k by omega] at pp
        exact ⟨ho.2.2.2.1, by have := ho.2.2.2.2; show p.1.r ≤ _; omega, pp⟩
  · have hk : (takersOf W)[k]? = some x := hk
    unfold takersOf at hk
    by_cases c : k < W.takes.length
    · rw [List.getElem?_append_left (by simpa using c), List.getElem?_map, List.getElem?_zipIdx, List.getElem?_eq_getElem c] at hk
      simp at hk
      subst hk
      exact ⟨by show 0 ≤ bigOf W; omega, by show bigOf W ≤ _; omega, seat_perm hw (by omega) (by omega) (hw.take k _ (List.getElem?_eq_getElem c)) (.inr ⟨rfl, rfl⟩)⟩
    · rw [List.getElem?_append_right (by simp; omega)] at hk
      simp only [List.length_map, List.length_zipIdx] at hk
      unfold doorSeats at hk
      rw [List.getElem?_map] at hk
      cases e : (doorP W 1)[k - W.takes.length]? with
      | none => rw [e] at hk; cases hk
      | some p =>
        rw [e] at hk
        cases hk
        obtain ⟨g1, g2, g3⟩ := doorP_mem (List.mem_of_getElem? e)
        have ho := hw.road _ (List.getElem_mem g1)
        rw [g2] at ho
        have pp := door_perm hw (by omega) e
        rw [show W.gives.length + (k - W.takes.length) = k by omega] at pp
        exact ⟨ho.2.2.2.1, by have := ho.2.2.2.2; show p.1.r ≤ _; omega, pp⟩
end Fn

namespace Fn
open PySem PySem.Spec PyProof.Rows L2 Uv
/-! webs and fairs, told by repr -/
theorem sho_end {k : Nat} {o : Option Nat} {n : Nat} (h : ∀ j, o = some j → j < n) (hn : n ≤ 1000) : Sho k 41 (endD o) := by
  cases o with
  | none => exact Sho.non.mono (Nat.le_refl _) (by decide)
  | some j => have := h j rfl; exact Sho.nat (by omega)
theorem sho_room {k : Nat} {r : Int} (h0 : 0 ≤ r) (h1 : r ≤ 1000000000000000) : Sho k 41 (.int r) := Sho.int (by omega)
theorem sho_road {k n : Nat} {x : Road} (h : OkRoad n x) (hn : n ≤ 1000) : Sho (k + 1) 132 (roadD x) := by
  refine Sho.tup (k := k) (n := 41) (L := 3) (fun d hd => ?_) (by simp)
  simp only [List.mem_cons, List.not_mem_nil, or_false] at hd
  rcases hd with rfl | rfl | rfl
  · exact sho_end h.2.1 hn
  · exact sho_end h.2.2.1 hn
  · exact sho_room h.2.2.2.1 (by have := h.2.2.2.2; omega)
theorem sho_orders {k : Nat} {os : List (List Nat)} (h1 : os.length ≤ 8) (h2 : ∀ l ∈ os, l.length ≤ 20 ∧ ∀ j ∈ l, j < 1000) : Sho (k + 2) 6923 (.tuple (os.map natsD)) := by
  refine Sho.tup (k := k + 1) (n := 863) (L := 8) (fun d hd => ?_) (by simpa using h1)
  obtain ⟨l, hl, rfl⟩ := List.mem_map.mp hd
  exact Sho.nats (L := 20) (fun j hj => Nat.lt_trans ((h2 l hl).2 j hj) (by decide)) (h2 l hl).1
theorem sho_web {W : Web} (hw : IsWeb W) : Sho 60 10000000 (webD W) := by
  have hc := hw.count
  have hh := hw.houses
  have hm := hw.same
  refine (Sho.tup (k := 2) (n := 6923) (L := 3) (fun d hd => ?_) (by simp)).mono (by decide) (by decide)
  simp only [List.mem_cons, List.not_mem_nil, or_false] at hd
  rcases hd with rfl | rfl | rfl
  · refine (Sho.tup (k := 1) (n := 132) (L := 20) (fun d hd => ?_) (by simpa using hc.2)).mono (by decide) (by decide)
    obtain ⟨x, hx, rfl⟩ := List.mem_map.mp hd
    exact sho_road (hw.road x hx) (by omega)
  · refine sho_orders hh.2 fun l hl => ?_
    obtain ⟨k, hk⟩ := List.getElem?_of_mem hl
    obtain ⟨h1, h2⟩ := List.getElem?_eq_some_iff.mp hk
    exact ⟨by rw [← h2]; exact give_len hw h1, fun j hj => by have := atR_lt ((hw.give k l hk).mem_iff.mp hj); omega⟩
  · refine sho_orders (by omega) fun l hl => ?_
    obtain ⟨k, hk⟩ := List.getElem?_of_mem hl
    obtain ⟨h1, h2⟩ := List.getElem?_eq_some_iff.mp hk
    exact ⟨by rw [← h2]; exact take_len hw h1, fun j hj => by have := atR_lt ((hw.take k l hk).mem_iff.mp hj); omega⟩
theorem sho_tie {k g t : Nat} {x : Tie} (h : OkTie g t x) (hg : g ≤ 1000) (ht : t ≤ 1000) : Sho (k + 1) 132 (tieD x) := by
  have h1 := h.g
  have h2 := h.t
  refine Sho.tup (k := k) (n := 41) (L := 3) (fun d hd => ?_) (by simp)
  simp only [List.mem_cons, List.not_mem_nil, or_false] at hd
  rcases hd with rfl | rfl | rfl
  · exact Sho.nat (by omega)
  · exact Sho.nat (by omega)
  · exact sho_room h.r0 h.r1
theorem sho_seat {k : Nat} {ts : List Tie} {s j : Nat} {x : Seat} (h : OkSeat ts s j x) (hn : ts.length ≤ 36) : Sho (k + 2) 3109 (seatD x) := by
  refine Sho.tup (k := k + 1) (n := 1551) (L := 2) (fun d hd => ?_) (by simp)
  simp only [List.mem_cons, List.not_mem_nil, or_false] at hd
  rcases hd with rfl | rfl
  · exact (sho_room h.m0 h.m1).mono (Nat.le_refl _) (by decide)
  · refine Sho.nats (L := 36) (fun j hj => ?_) ?_
    · have := atT_lt (h.p.mem_iff.mp hj)
      omega
    · have := atT_len (ts := ts) (s := s) (k := j)
      have := h.p.length_eq
      omega
theorem sho_fair {F : Fair} (hf : IsFair F) : Sho 60 10000000 (fairD F) := by
  have hg := hf.g
  have ht := hf.t
  refine (Sho.tup (k := 3) (n := 87111) (L := 3) (fun d hd => ?_) (by simp)).mono (by decide) (by decide)
  simp only [List.mem_cons, List.not_mem_nil, or_false] at hd
  rcases hd with rfl | rfl | rfl
  · refine (Sho.tup (k := 2) (n := 132) (L := 36) (fun d hd => ?_) (by simpa using hf.n)).mono (by decide) (by decide)
    obtain ⟨x, hx, rfl⟩ := List.mem_map.mp hd
    exact sho_tie (hf.tie x hx) (by omega) (by omega)
  · refine Sho.tup (k := 2) (n := 3109) (L := 28) (fun d hd => ?_) (by simpa using hg.2)
    obtain ⟨x, hx, rfl⟩ := List.mem_map.mp hd
    obtain ⟨k, hk⟩ := List.getElem?_of_mem hx
    exact sho_seat (hf.give k x hk) hf.n
  · refine Sho.tup (k := 2) (n := 3109) (L := 28) (fun d hd => ?_) (by simpa using ht.2)
    obtain ⟨x, hx, rfl⟩ := List.mem_map.mp hd
    obtain ⟨k, hk⟩ := List.getElem?_of_mem hx
    exact sho_seat (hf.take k x hk) hf.n
end Fn

/-! every web has a stream that some lot calms: offers and refusals, one at a time -/
namespace Calm
def sm (l : List Nat) (g : Nat → Int) : Int := (l.map g).sum
theorem sm_cons {x : Nat} {l : List Nat} {g : Nat → Int} : sm (x :: l) g = g x + sm l g := by simp [sm]
theorem sm_same {l : List Nat} {g g' : Nat → Int} (h : ∀ j ∈ l, g' j = g j) : sm l g' = sm l g := by
  unfold sm
  rw [List.map_congr_left h]
theorem sm_up {l : List Nat} {g g' : Nat → Int} {k : Nat} {c : Int} (nd : l.Nodup) (hk : k ∈ l) (h1 : g' k = g k + c) (h2 : ∀ j, j ≠ k → g' j = g j) : sm l g' = sm l g + c := by
  induction l with
  | nil => exact nomatch hk
  | cons x xs ih =>
    obtain ⟨n1, n2⟩ := List.nodup_cons.mp nd
    rw [sm_cons, sm_cons]
    by_cases e : x = k
    · subst e
      rw [h1, sm_same fun j hj => h2 j fun z => n1 (z ▸ hj)]
      omega
    · have hk : k ∈ xs := (List.mem_cons.mp hk).resolve_left fun z => e z.symm
      rw [h2 x e, ih n2 hk]
      omega
theorem sm_le {l : List Nat} {g g' : Nat → Int} (h : ∀ j ∈ l, g j ≤ g' j) : sm l g ≤ sm l g' := by
  induction l with
  | nil => exact Int.le_refl _
  | cons x xs ih =>
    have h1 := h x (List.mem_cons_self ..)
    have h2 := ih fun j hj => h j (List.mem_cons_of_mem _ hj)
    rw [sm_cons, sm_cons]
    omega
theorem sm_nn {l : List Nat} {g : Nat → Int} (h : ∀ j ∈ l, 0 ≤ g j) : 0 ≤ sm l g := by
  have := sm_le (g := fun _ => 0) h
  have e : ∀ l : List Nat, sm l (fun _ => 0) = 0 := fun l => by
    induction l with
    | nil => rfl
    | cons x xs ih => rw [sm_cons, ih]; rfl
  rw [e] at this
  exact this
/-- where a sum of what is nowhere less than nought is at most nought, each part is nought -/
theorem sm_zero {l : List Nat} {g : Nat → Int} (h : ∀ j ∈ l, 0 ≤ g j) (hs : sm l g ≤ 0) : ∀ j ∈ l, g j = 0 := by
  induction l with
  | nil => intro j hj; exact nomatch hj
  | cons x xs ih =>
    rw [sm_cons] at hs
    have h1 := h x (List.mem_cons_self ..)
    have h2 := sm_nn fun j hj => h j (List.mem_cons_of_mem _ hj)
    intro j hj
    rcases List.mem_cons.mp hj with rfl | hj
    · omega
    · exact ih (fun j hj => h j (List.mem_cons_of_mem _ hj)) (by omega) j hj
theorem sm_pos {l : List Nat} {g : Nat → Int} (h : ∀ j ∈ l, 0 ≤ g j) (hs : 0 < sm l g) : ∃ j ∈ l, 0 < g j := by
  apply Classical.byContradiction
  intro z
  have := sm_le (l := l) (g := g) (g' := fun _ => 0) fun j hj => by
    have := h j hj
    apply Classical.byContradiction
    intro z'
    exact z ⟨j, hj, by omega⟩
  have e : ∀ l : List Nat, sm l (fun _ => 0) = 0 := fun l => by
    induction l with
    | nil => rfl
    | cons x xs ih => rw [sm_cons, ih]; rfl
  rw [e] at this
  omega
/-- the first and the last that a word holds of -/
theorem least_of (l : List Nat) (P : Nat → Prop) (h : ∃ k ∈ l, P k) : ∃ k ∈ l, P k ∧ ∀ j ∈ l, l.idxOf j < l.idxOf k → ¬ P j := by
  obtain ⟨k, hk, hp⟩ := h
  have main : ∀ n : Nat, ∀ k ∈ l, P k → l.idxOf k ≤ n → ∃ k ∈ l, P k ∧ ∀ j ∈ l, l.idxOf j < l.idxOf k → ¬ P j := by
    intro n
    induction n with
    | zero => exact fun k hk hp hn => ⟨k, hk, hp, fun j _ hj => by omega⟩
    | succ n ih =>
      intro k hk hp hn
      by_cases c : ∃ j ∈ l, l.idxOf j < l.idxOf k ∧ P j
      · obtain ⟨j, hj, h1, h2⟩ := c
        exact ih j hj h2 (by omega)
      · exact ⟨k, hk, hp, fun j hj h1 h2 => c ⟨j, hj, h1, h2⟩⟩
  exact main _ k hk hp (Nat.le_refl _)
theorem last_of (l : List Nat) (P : Nat → Prop) (h : ∃ k ∈ l, P k) : ∃ k ∈ l, P k ∧ ∀ j ∈ l, l.idxOf k < l.idxOf j → ¬ P j := by
  obtain ⟨k, hk, hp⟩ := h
  have main : ∀ n : Nat, ∀ k ∈ l, P k → l.length - l.idxOf k ≤ n → ∃ k ∈ l, P k ∧ ∀ j ∈ l, l.idxOf k < l.idxOf j → ¬ P j := by
    intro n
    induction n with
    | zero => exact fun k hk hp hn => ⟨k, hk, hp, fun j hj h1 => by have := List.idxOf_lt_length_iff.mpr hk; omega⟩
    | succ n ih =>
      intro k hk hp hn
      by_cases c : ∃ j ∈ l, l.idxOf k < l.idxOf j ∧ P j
      · obtain ⟨j, hj, h1, h2⟩ := c
        exact ih j hj h2 (by omega)
      · exact ⟨k, hk, hp, fun j hj h1 h2 => c ⟨j, hj, h1, h2⟩⟩
  exact main _ k hk hp (Nat.le_refl _)
/-- a web, by functions -/
structure Net where
  n : Nat
  hs : Nat
  b : Nat → Option Nat
  e : Nat → Option Nat
  r : Nat → Int
  g : Nat → List Nat
  t : Nat → List Nat
structure Net.Ok (N : Net) : Prop where
  ne : ∀ k, k < N.n → N.b k ≠ N.e k
  r0 : ∀ k, 0 ≤ N.r k
  gm : ∀ h k, k ∈ N.g h ↔ k < N.n ∧ N.b k = some h
  tm : ∀ h k, k ∈ N.t h ↔ k < N.n ∧ N.e k = some h
  gn : ∀ h, (N.g h).Nodup
  tn : ∀ h, (N.t h).Nodup
  bh : ∀ k h, k < N.n → N.b k = some h → h < N.hs
  eh : ∀ k h, k < N.n → N.e k = some h → h < N.hs
variable {N : Net}
def outs (N : Net) (D R : Nat → Int) (h : Nat) : Int := sm (N.g h) fun k => D k - R k
def ins (N : Net) (D R : Nat → Int) (h : Nat) : Int := sm (N.t h) fun k => D k - R k
/-- what is borne by the roads that a house takes less gladly than this one -/
def worse (N : Net) (D R : Nat → Int) (h k : Nat) : Int := sm (N.t h) fun j => if (N.t h).idxOf k < (N.t h).idxOf j then D j - R j else 0
structure St (N : Net) (D R : Nat → Int) : Prop where
  i1 : ∀ k, 0 ≤ R k ∧ R k ≤ D k ∧ D k ≤ N.r k
  i2 : ∀ k, N.b k = none → D k = N.r k
  i3 : ∀ h k j, k ∈ N.g h → j ∈ N.g h → (N.g h).idxOf k < (N.g h).idxOf j → 0 < D j → D k = N.r k
  i4 : ∀ k, N.e k = none → R k = 0
  i5 : ∀ h, outs N D R h ≤ ins N D R h
  i6 : ∀ h k, k ∈ N.t h → 0 < R k → (∀ j ∈ N.g h, D j = N.r j) ∧ worse N D R h k ≤ ins N D R h - outs N D R h
def up (D : Nat → Int) (k : Nat) : Nat → Int := fun j => if j = k then D j + 1 else D j
theorem up_at {D : Nat → Int} {k : Nat} : up D k k = D k + 1 := if_pos rfl
theorem up_ne {D : Nat → Int} {k j : Nat} (h : j ≠ k) : up D k j = D j := if_neg h
/-- one more is offered on a road -/
theorem offer (ok : N.Ok) {D R : Nat → Int} (s : St N D R) {h k : Nat} (hk : k ∈ N.g h) (ex : outs N D R h < ins N D R h) (lt : D k < N.r k) (first : ∀ j ∈ N.g h, (N.g h).idxOf j < (N.g h).idxOf k → ¬ D j < N.r j) : St N (up D k) R := by
  obtain ⟨kn, kb⟩ := (ok.gm h k).mp hk
  have f1 : up D k k - R k = D k - R k + 1 := by rw [up_at]; omega
  have f2 : ∀ j, j ≠ k → up D k j - R j = D j - R j := fun j hj => by rw [up_ne hj]
  -- the outs and the ins of each house
  have o1 : outs N (up D k) R h = outs N D R h + 1 := sm_up (ok.gn h) hk f1 f2
  have o2 : ∀ h', h' ≠ h → outs N (up D k) R h' = outs N D R h' := fun h' z => sm_same fun j hj => f2 j fun y => by
    subst y
    have := ((ok.gm h' j).mp hj).2
    rw [kb] at this
    exact z (Option.some.inj this).symm
  have n1 : ∀ h', N.e k = some h' → ins N (up D k) R h' = ins N D R h' + 1 := fun h' z => sm_up (ok.tn h') ((ok.tm h' k).mpr ⟨kn, z⟩) f1 f2
  have n2 : ∀ h', N.e k ≠ some h' → ins N (up D k) R h' = ins N D R h' := fun h' z => sm_same fun j hj => f2 j fun y => by
    subst y
    exact z ((ok.tm h' j).mp hj).2
  have eh : N.e k ≠ some h := fun z => ok.ne k kn (by rw [kb, z])
  refine ⟨fun j => ?_, fun j hj => ?_, fun h' i j hi hj hij hD => ?_, s.i4, fun h' => ?_, fun h' j hj hR => ?_⟩
  · have := s.i1 j
    by_cases c : j = k
    · subst c; rw [up_at]; omega
    · rw [up_ne c]; omega
  · have : j ≠ k := fun z => by subst z; rw [kb] at hj; exact nomatch hj
    rw [up_ne this]
    exact s.i2 j hj
  · have nik : i ≠ k ∨ D i = N.r i := by
      by_cases c : i = k
      · refine .inr ?_
        subst c
        have : j ≠ i := fun z => by subst z; exact Nat.lt_irrefl _ hij
        rw [up_ne this] at hD
        exact s.i3 h' i j hi hj hij hD
      · exact .inl c
    by_cases c : i = k
    · subst c
      rcases nik with z | z
      · exact absurd rfl z
      · omega
    · rw [up_ne c]
      by_cases c2 : j = k
      · subst c2
        have hh : h' = h := by
          have := ((ok.gm h' j).mp hj).2
          rw [kb] at this
          exact (Option.some.inj this).symm
        subst hh
        have := first i hi hij
        have := (s.i1 i).2.2
        omega
      · rw [up_ne c2] at hD
        exact s.i3 h' i j hi hj hij hD
  · by_cases c : h' = h
    · subst c
      rw [o1, n2 h' eh]
      omega
    · rw [o2 h' c]
      have := s.i5 h'
      by_cases c2 : N.e k = some h'
      · rw [n1 h' c2]; omega
      · rw [n2 h' c2]; exact this
  · obtain ⟨a1, a2⟩ := s.i6 h' j hj hR
    have hh : h' ≠ h := fun z => by subst z; have := a1 k hk; omega
    refine ⟨fun i hi => ?_, ?_⟩
    · have : i ≠ k := fun z => by
        subst z
        have := ((ok.gm h' i).mp hi).2
        rw [kb] at this
        exact hh (Option.some.inj this).symm
      rw [up_ne this]
      exact a1 i hi
    · rw [o2 h' hh]
      by_cases c2 : N.e k = some h'
      · rw [n1 h' c2]
        have hkt : k ∈ N.t h' := (ok.tm h' k).mpr ⟨kn, c2⟩
        have : worse N (up D k) R h' j ≤ worse N D R h' j + 1 := by
          by_cases c3 : (N.t h').idxOf j < (N.t h').idxOf k
          · refine Int.le_of_eq (sm_up (ok.tn h') hkt ?_ fun i hi => ?_)
            · rw [if_pos c3, if_pos c3, f1]
            · rw [f2 i hi]
          · have : worse N (up D k) R h' j = worse N D R h' j := sm_same fun i hi => by
              by_cases c4 : i = k
              · subst c4; rw [if_neg c3, if_neg c3]
              · rw [f2 i c4]
            omega
        omega
      · rw [n2 h' c2]
        have : worse N (up D k) R h' j = worse N D R h' j := sm_same fun i hi => by
          have : i ≠ k := fun z => by subst z; exact c2 ((ok.tm h' i).mp hi).2
          rw [f2 i this]
        omega
/-- one is refused -/
theorem refuse (ok : N.Ok) {D R : Nat → Int} (s : St N D R) {h k : Nat} (hk : k ∈ N.t h) (ex : outs N D R h < ins N D R h) (full : ∀ j ∈ N.g h, D j = N.r j) (lt : 0 < D k - R k) (last : ∀ j ∈ N.t h, (N.t h).idxOf k < (N.t h).idxOf j → ¬ 0 < D j - R j) : St N D (up R k) := by
  obtain ⟨kn, ke⟩ := (ok.tm h k).mp hk
  have f1 : D k - up R k k = D k - R k + (-1) := by rw [up_at]; omega
  have f2 : ∀ j, j ≠ k → D j - up R k j = D j - R j := fun j hj => by rw [up_ne hj]
  have n1 : ins N D (up R k) h = ins N D R h + (-1) := sm_up (ok.tn h) hk f1 f2
  have n2 : ∀ h', h' ≠ h → ins N D (up R k) h' = ins N D R h' := fun h' z => sm_same fun j hj => f2 j fun y => by
    subst y
    have := ((ok.tm h' j).mp hj).2
    rw [ke] at this
    exact z (Option.some.inj this).symm
  have o1 : ∀ h', N.b k = some h' → outs N D (up R k) h' = outs N D R h' + (-1) := fun h' z => sm_up (ok.gn h') ((ok.gm h' k).mpr ⟨kn, z⟩) f1 f2
  have o2 : ∀ h', N.b k ≠ some h' → outs N D (up R k) h' = outs N D R h' := fun h' z => sm_same fun j hj => f2 j fun y => by
    subst y
    exact z ((ok.gm h' j).mp hj).2
  have bh : N.b k ≠ some h := fun z => ok.ne k kn (by rw [ke, z])
  refine ⟨fun j => ?_, s.i2, s.i3, fun j hj => ?_, fun h' => ?_, fun h' j hj hR => ?_⟩
  · have := s.i1 j
    by_cases c : j = k
    · subst c; rw [up_at]; omega
    · rw [up_ne c]; omega
  · have : j ≠ k := fun z => by subst z; rw [ke] at hj; exact nomatch hj
    rw [up_ne this]
    exact s.i4 j hj
  · by_cases c : h' = h
    · subst c
      rw [n1, o2 h' bh]
      omega
    · rw [n2 h' c]
      have := s.i5 h'
      by_cases c2 : N.b k = some h'
      · rw [o1 h' c2]; omega
      · rw [o2 h' c2]; exact this
  · by_cases c : h' = h
    · subst c
      refine ⟨full, ?_⟩
      rw [n1, o2 h' bh]
      by_cases c2 : (N.t h').idxOf j < (N.t h').idxOf k
      · -- better than the refused one
        have hj2 : j ≠ k := fun z => by subst z; exact Nat.lt_irrefl _ c2
        rw [up_ne hj2] at hR
        obtain ⟨a1, a2⟩ := s.i6 h' j hj hR
        have : worse N D (up R k) h' j = worse N D R h' j + (-1) := sm_up (ok.tn h') hk (by rw [if_pos c2, if_pos c2, f1]) fun i hi => by rw [f2 i hi]
        omega
      · -- the refused one, or a worse: nothing worse is borne
        have : worse N D (up R k) h' j ≤ 0 := by
          have z : worse N D (up R k) h' j ≤ sm (N.t h') (fun _ => 0) := sm_le fun i hi => by
            by_cases c3 : (N.t h').idxOf j < (N.t h').idxOf i
            · rw [if_pos c3]
              have c4 : (N.t h').idxOf k < (N.t h').idxOf i := by omega
              have hik : i ≠ k := fun z => by subst z; exact Nat.lt_irrefl _ c4
              rw [f2 i hik]
              have := last i hi c4
              omega
            · rw [if_neg c3]
              exact Int.le_refl _
          have e : ∀ l : List Nat, sm l (fun _ => 0) = 0 := fun l => by
            induction l with
            | nil => rfl
            | cons x xs ih => rw [sm_cons, ih]; rfl
          rw [e] at z
          exact z
        omega
    · have hj2 : j ≠ k := fun z => by
        subst z
        have := ((ok.tm h' j).mp hj).2
        rw [ke] at this
        exact c (Option.some.inj this).symm
      rw [up_ne hj2] at hR
      obtain ⟨a1, a2⟩ := s.i6 h' j hj hR
      refine ⟨a1, ?_⟩
      rw [n2 h' c]
      have : worse N D (up R k) h' j = worse N D R h' j := sm_same fun i hi => by
        have : i ≠ k := fun z => by
          subst z
          have := ((ok.tm h' i).mp hi).2
          rw [ke] at this
          exact c (Option.some.inj this).symm
        rw [f2 i this]
      by_cases c2 : N.b k = some h'
      · rw [o1 h' c2]; omega
      · rw [o2 h' c2]; omega
/-- what is left to be offered and refused -/
def left (N : Net) (D R : Nat → Int) : Int := sm (List.range N.n) fun k => 2 * N.r k - D k - R k
theorem left_nn {D R : Nat → Int} (s : St N D R) : 0 ≤ left N D R := sm_nn fun k _ => by have := s.i1 k; omega
theorem left_offer {D R : Nat → Int} {k : Nat} (hk : k < N.n) : left N (up D k) R = left N D R + (-1) := sm_up List.nodup_range (List.mem_range.mpr hk) (by rw [up_at]; omega) fun j hj => by rw [up_ne hj]
theorem left_refuse {D R : Nat → Int} {k : Nat} (hk : k < N.n) : left N D (up R k) = left N D R + (-1) := sm_up List.nodup_range (List.mem_range.mpr hk) (by rw [up_at]; omega) fun j hj => by rw [up_ne hj]
theorem rest_of (ok : N.Ok) : ∀ (n : Nat) (D R : Nat → Int), St N D R → left N D R ≤ n → ∃ D R, St N D R ∧ ∀ h, outs N D R h = ins N D R h := by
  intro n
  induction n with
  | zero =>
    intro D R s hl
    by_cases c : ∃ h, outs N D R h < ins N D R h
    · obtain ⟨h, hx⟩ := c
      exfalso
      by_cases c2 : ∃ k ∈ N.g h, D k < N.r k
      · obtain ⟨k, hk, lt, first⟩ := least_of _ _ c2
        have s' := offer ok s hk hx lt first
        have := left_nn s'
        rw [left_offer ((ok.gm h k).mp hk).1] at this
        omega
      · have full : ∀ j ∈ N.g h, D j = N.r j := fun j hj => by
          have := (s.i1 j).2.2
          apply Classical.byContradiction
          intro z
          exact c2 ⟨j, hj, by omega⟩
        have on : 0 ≤ outs N D R h := sm_nn fun j _ => by have := s.i1 j; omega
        obtain ⟨k, hk, lt, last⟩ := last_of (N.t h) (fun j => 0 < D j - R j) (sm_pos (fun j _ => by have := s.i1 j; omega) (show 0 < ins N D R h by omega))
        have s' := refuse ok s hk hx full lt last
        have := left_nn s'
        rw [left_refuse ((ok.tm h k).mp hk).1] at this
        omega
    · exact ⟨D, R, s, fun h => by
        have := s.i5 h
        apply Classical.byContradiction
        intro z
        exact c ⟨h, by omega⟩⟩
  | succ n ih =>
    intro D R s hl
    by_cases c : ∃ h, outs N D R h < ins N D R h
    · obtain ⟨h, hx⟩ := c
      by_cases c2 : ∃ k ∈ N.g h, D k < N.r k
      · obtain ⟨k, hk, lt, first⟩ := least_of _ _ c2
        exact ih _ _ (offer ok s hk hx lt first) (by rw [left_offer ((ok.gm h k).mp hk).1]; omega)
      · have full : ∀ j ∈ N.g h, D j = N.r j := fun j hj => by
          have := (s.i1 j).2.2
          apply Classical.byContradiction
          intro z
          exact c2 ⟨j, hj, by omega⟩
        have on : 0 ≤ outs N D R h := sm_nn fun j _ => by have := s.i1 j; omega
        obtain ⟨k, hk, lt, last⟩ := last_of (N.t h) (fun j => 0 < D j - R j) (sm_pos (fun j _ => by have := s.i1 j; omega) (show 0 < ins N D R h by omega))
        exact ih _ _ (refuse ok s hk hx full lt last) (by rw [left_refuse ((ok.tm h k).mp hk).1]; omega)
    · exact ⟨D, R, s, fun h => by
        have := s.i5 h
        apply Classical.byContradiction
        intro z
        exact c ⟨h, by omega⟩⟩
/-- the beginning: outside offers all -/
theorem start (ok : N.Ok) : St N (fun k => if N.b k = none then N.r k else 0) fun _ => 0 := by
  refine ⟨fun k => ?_, fun k hk => if_pos hk, fun h k j hk hj hij hD => ?_, fun _ _ => rfl, fun h => ?_, fun h k hk hR => by omega⟩
  · have := ok.r0 k
    split <;> omega
  · have : N.b j ≠ none := fun z => by rw [((ok.gm h j).mp hj).2] at z; exact nomatch z
    rw [if_neg this] at hD
    omega
  · have e : outs N (fun k => if N.b k = none then N.r k else 0) (fun _ => 0) h = sm (N.g h) fun _ => 0 := sm_same fun j hj => by
      have : N.b j ≠ none := fun z => by rw [((ok.gm h j).mp hj).2] at z; exact nomatch z
      show (if N.b j = none then N.r j else 0) - 0 = 0
      rw [if_neg this]; rfl
    have z : sm (N.g h) (fun _ => 0) ≤ sm (N.g h) (fun _ => 0) := Int.le_refl _
    have e0 : ∀ l : List Nat, sm l (fun _ => 0) = 0 := fun l => by
      induction l with
      | nil => rfl
      | cons x xs ih => rw [sm_cons, ih]; rfl
    rw [e, e0]
    exact sm_nn fun j _ => by
      have := ok.r0 j
      show 0 ≤ (if N.b j = none then N.r j else 0) - 0
      split <;> omega
/-- a calm stream -/
structure Rests (N : Net) (f : Nat → Int) (L : Nat → Prop) : Prop where
  lo : ∀ k, 0 ≤ f k
  hi : ∀ k, f k ≤ N.r k
  even : ∀ h, sm (N.g h) f = sm (N.t h) f
  calm : ∀ k, k < N.n → f k < N.r k → (∀ h, N.b k = some h → L h ∨ ∃ j ∈ N.g h, (N.g h).idxOf k < (N.g h).idxOf j ∧ 0 < f j) → ∃ h, N.e k = some h ∧ L h ∧ ∀ j ∈ N.t h, (N.t h).idxOf k < (N.t h).idxOf j → f j = 0
theorem exists_calm (ok : N.Ok) : ∃ f L, Rests N f L := by
  obtain ⟨m, hm⟩ : ∃ m : Nat, left N (fun k => if N.b k = none then N.r k else 0) (fun _ => 0) ≤ m := ⟨Int.toNat _, Int.self_le_toNat _⟩
  obtain ⟨D, R, s, ev⟩ := rest_of ok m _ _ (start ok) hm
  refine ⟨fun k => D k - R k, fun h => ∀ j ∈ N.g h, D j = N.r j, fun k => ?_, fun k => ?_, ev, fun k kn hk hb => ?_⟩
  · have := s.i1 k; omega
  · have := s.i1 k; omega
  · have dk : D k = N.r k := by
      cases hb' : N.b k with
      | none => exact s.i2 k hb'
      | some h =>
        have kg : k ∈ N.g h := (ok.gm h k).mpr ⟨kn, hb'⟩
        rcases hb h hb' with z | ⟨j, hj, hij, hf⟩
        · exact z k kg
        · exact s.i3 h k j kg hj hij (by have := s.i1 j; omega)
    have rk : 0 < R k := by omega
    cases he : N.e k with
    | none => have := s.i4 k he; omega
    | some h =>
      have kt : k ∈ N.t h := (ok.tm h k).mpr ⟨kn, he⟩
      obtain ⟨a1, a2⟩ := s.i6 h k kt rk
      refine ⟨h, rfl, a1, fun j hj hij => ?_⟩
      have z := sm_zero (l := N.t h) (g := fun j => if (N.t h).idxOf k < (N.t h).idxOf j then D j - R j else 0) (fun j _ => by
        have := s.i1 j
        split <;> omega) (by have := ev h; show worse N D R h k ≤ 0; omega) j hj
      rw [if_pos hij] at z
      exact z
end Calm

namespace Uv
open PySem PySem.Spec PyProof.Rows L2
/-! ### membership, cuts -/
def inO (l : List Nat) (o : Option Nat) : Bool := match o with
  | none => false
  | some h => l.contains h
theorem eqv_nat {a b : Nat} : PyData.eqv (natD a) (natD b) = (a == b) := by
  show ((a : Int) == (b : Int)) = _
  exact Bool.eq_iff_iff.mpr (by simp; omega)
theorem any_nat {l : List Nat} {h : Nat} : ((l.map natD).any fun z => PyData.eqv z (natD h)) = l.contains h := by
  induction l with
  | nil => rfl
  | cons x xs ih =>
    rw [List.map_cons, List.any_cons, ih, eqv_nat, List.contains_cons]
    congr 1
    exact Bool.eq_iff_iff.mpr (by simp; exact eq_comm)
theorem any_none {l : List Nat} : ((l.map natD).any fun z => PyData.eqv z .none) = false := by
  induction l with
  | nil => rfl
  | cons x xs ih => rw [List.map_cons, List.any_cons, ih]; rfl
theorem lay_end {k : Nat} {o : Option Nat} : Lay k (endD o) := by cases o; exact Lay.non; exact Lay.int
theorem any_end {l : List Nat} {o : Option Nat} : ((l.map natD).any fun z => PyData.eqv z (endD o)) = inO l o := by
  cases o with
  | none => exact any_none
  | some h => exact any_nat
theorem in_end {l : List Nat} {o : Option Nat} : inP (endD o) (natsD l) = some (.bool (inO l o)) := by
  unfold inP
  rw [if_pos ⟨lay_end.sh, (Lay.natsT (k := 59)).sh⟩]
  show some (PyData.bool _) = _
  rw [any_end]
theorem notin_end {l : List Nat} {o : Option Nat} : notinP (endD o) (natsD l) = some (.bool (!inO l o)) := by
  unfold notinP
  rw [if_pos ⟨lay_end.sh, (Lay.natsT (k := 59)).sh⟩]
  show some (PyData.bool _) = _
  rw [any_end]
theorem in_nat {l : List Nat} {h : Nat} : inP (natD h) (natsD l) = some (.bool (l.contains h)) := in_end (o := some h)
theorem notin_nat {l : List Nat} {h : Nat} : notinP (natD h) (natsD l) = some (.bool (!l.contains h)) := notin_end (o := some h)
theorem any_ends {os : List (Option Nat)} {h : Nat} : ((os.map endD).any fun z => PyData.eqv z (natD h)) = os.contains (some h) := by
  induction os with
  | nil => rfl
  | cons x xs ih =>
    rw [List.map_cons, List.any_cons, ih, List.contains_cons]
    congr 1
    cases x with
    | none => rfl
    | some j =>
      show PyData.eqv (natD j) (natD h) = _
      rw [eqv_nat]
      exact Bool.eq_iff_iff.mpr (by simp; exact eq_comm)
theorem in_ends {os : List (Option Nat)} {h : Nat} : inP (natD h) (.list (os.map endD)) = some (.bool (os.contains (some h))) := by
  unfold inP
  rw [if_pos ⟨(Lay.int (k := 60)).sh, (Lay.lst (k := 59) (Lay.map fun _ => lay_end)).sh⟩]
  show some (PyData.bool _) = _
  rw [any_ends]
theorem cut_from {ds : List PD} {k : Nat} : cutD ds (some ((k : Int) + 1)) none = ds.drop (k + 1) := by
  unfold cutD
  rw [show (some ((k : Int) + 1)) = some (((k + 1 : Nat)) : Int) by simp, HT.sIx_nat, HT.sIx_none]
  by_cases c : k + 1 ≤ ds.length
  · rw [Nat.min_eq_left c, List.take_of_length_le (by simp)]
  · rw [Nat.min_eq_right (by omega), List.drop_eq_nil_of_le (Nat.le_refl _), List.drop_eq_nil_of_le (by omega)]
    simp
theorem cut_1 {ds : List PD} : cutD ds (some 1) none = ds.drop 1 := cut_from (k := 0)
theorem cut_63' {ns : List Int} (h : ns.length ≤ 63) : cutD (ns.map PyData.int) none (some 63) = ns.map PyData.int := by
  unfold cutD
  rw [HT.sIx_none, show (some (63 : Int)) = some ((63 : Nat) : Int) from rfl, HT.sIx_nat, List.length_map, Nat.min_eq_right h]
  exact List.take_of_length_le (by simp)
theorem zipD_map {α β : Type} {f : α → PD} {g : β → PD} {l : List α} {m : List β} : zipD (l.map f) (m.map g) = (l.zip m).map fun p => .tuple [f p.1, g p.2] := by
  unfold zipD
  rw [List.zipWith_map, List.zip, List.map_zipWith]
theorem ne_tups {l m : List Nat} : neP (natsD l) (natsD m) = some (.bool (!(l == m))) := by
  unfold natsD
  rw [neP_lay (Lay.natsT (k := 59)) (Lay.natsT (k := 59)), show PyData.eqv (.tuple (l.map natD)) (.tuple (m.map natD)) = PyData.eqvAll (l.map natD) (m.map natD) by simp [PyData.eqv], eqv_nats]
theorem ne_nilL {l : List PD} (h : ∀ d ∈ l, Lay 59 d) : neP (.list l) (.list []) = some (.bool (!l.isEmpty)) := by
  rw [neP_lay (Lay.lst h) (Lay.lst (k := 59) (by simp))]
  cases l with
  | nil => rfl
  | cons x xs => simp [PyData.eqv, PyData.eqvAll]
/-! ### streams and lots of a web -/
def rd (W : Web) (k : Nat) : Road := W.roads.getD k ⟨none, none, 0⟩
def giv (W : Web) (h : Nat) : List Nat := W.gives.getD h []
def tak (W : Web) (h : Nat) : List Nat := W.takes.getD h []
def at0 (f : List Int) (k : Nat) : Int := f.getD k 0
def lessB (f : List Int) (o : List Nat) (k : Nat) : Bool := (o.drop (o.idxOf k + 1)).any fun j => decide (0 < at0 f j)
def pushB (W : Web) (f : List Int) (lot : List Nat) (k : Nat) : Bool := match (rd W k).b with
  | none => true
  | some h => lot.contains h || lessB f (giv W h) k
def pullB (W : Web) (f : List Int) (lot : List Nat) (k : Nat) : Bool := match (rd W k).e with
  | none => true
  | some h => !lot.contains h || lessB f (tak W h) k
def openB (W : Web) (f : List Int) (k : Nat) : Bool := decide (at0 f k < (rd W k).r)
def calmB (W : Web) (f : List Int) (lot : List Nat) : Bool := (List.range W.roads.length).all fun k => !(openB W f k && pushB W f lot k && pullB W f lot k)
structure Bears (W : Web) (f : List Int) : Prop where
  len : f.length = W.roads.length
  nn : ∀ x ∈ f, 0 ≤ x
structure IsLot (n : Nat) (l : List Nat) : Prop where
  up : l.Pairwise (· < ·)
  lt : ∀ x ∈ l, x < n
theorem rd_eq {W : Web} {k : Nat} (h : k < W.roads.length) : rd W k = W.roads[k] := by simp [rd, h]
theorem giv_eq {W : Web} {k : Nat} (h : k < W.gives.length) : giv W k = W.gives[k] := by simp [giv, h]
theorem tak_eq {W : Web} {k : Nat} (h : k < W.takes.length) : tak W k = W.takes[k] := by simp [tak, h]
theorem at0_eq {f : List Int} {k : Nat} (h : k < f.length) : at0 f k = f[k] := by simp [at0, h]
theorem atI_bears {f : List Int} {k : Nat} (h : k < f.length) : atI (f.map PyData.int) (k : Int) = some (.int (at0 f k)) := by rw [atI_map h, at0_eq h]
theorem atI_road {W : Web} {k : Nat} (h : k < W.roads.length) : atI (W.roads.map roadD) (k : Int) = some (roadD (rd W k)) := by rw [atI_map h, rd_eq h]
theorem atI_giv {W : Web} {k : Nat} (h : k < W.gives.length) : atI (W.gives.map natsD) (k : Int) = some (natsD (giv W k)) := by rw [atI_map h, giv_eq h]
theorem atI_tak {W : Web} {k : Nat} (h : k < W.takes.length) : atI (W.takes.map natsD) (k : Int) = some (natsD (tak W k)) := by rw [atI_map h, tak_eq h]
section
variable {W : Web} {f : List Int}
theorem IsWeb.rd (hw : IsWeb W) {k : Nat} (h : k < W.roads.length) : OkRoad W.gives.length (rd W k) := by rw [rd_eq h]; exact hw.road _ (List.getElem_mem h)
theorem IsWeb.giv (hw : IsWeb W) {h : Nat} (hh : h < W.gives.length) : (giv W h).Perm (atR W.roads 0 h) := by rw [giv_eq hh]; exact hw.give h _ (List.getElem?_eq_getElem hh)
theorem IsWeb.tak (hw : IsWeb W) {h : Nat} (hh : h < W.gives.length) : (tak W h).Perm (atR W.roads 1 h) := by
  have hh' : h < W.takes.length := by rw [hw.same]; exact hh
  rw [tak_eq hh']; exact hw.take h _ (List.getElem?_eq_getElem hh')
theorem IsWeb.mem_giv (hw : IsWeb W) {h k : Nat} (hh : h < W.gives.length) : k ∈ Uv.giv W h ↔ k < W.roads.length ∧ (Uv.rd W k).b = some h := by
  rw [(hw.giv hh).mem_iff, Uv.mem_atR]
  constructor
  · rintro ⟨x, h1, h2⟩
    obtain ⟨h3, h4⟩ := List.getElem?_eq_some_iff.mp h1
    exact ⟨h3, by rw [rd_eq h3, h4]; exact h2⟩
  · rintro ⟨h1, h2⟩
    exact ⟨_, List.getElem?_eq_getElem h1, by rw [← rd_eq h1]; exact h2⟩
theorem IsWeb.mem_tak (hw : IsWeb W) {h k : Nat} (hh : h < W.gives.length) : k ∈ Uv.tak W h ↔ k < W.roads.length ∧ (Uv.rd W k).e = some h := by
  rw [(hw.tak hh).mem_iff, Uv.mem_atR]
  constructor
  · rintro ⟨x, h1, h2⟩
    obtain ⟨h3, h4⟩ := List.getElem?_eq_some_iff.mp h1
    exact ⟨h3, by rw [rd_eq h3, h4]; exact h2⟩
  · rintro ⟨h1, h2⟩
    exact ⟨_, List.getElem?_eq_getElem h1, by rw [← rd_eq h1]; exact h2⟩
theorem nodup_atR {rs : List Road} {s h : Nat} : (atR rs s h).Nodup := (atR_sorted rs s h).imp fun h => by omega
theorem IsWeb.nd_giv (hw : IsWeb W) {h : Nat} (hh : h < W.gives.length) : (Uv.giv W h).Nodup := (hw.giv hh).nodup_iff.mpr nodup_atR
theorem IsWeb.nd_tak (hw : IsWeb W) {h : Nat} (hh : h < W.gives.length) : (Uv.tak W h).Nodup := (hw.tak hh).nodup_iff.mpr nodup_atR
theorem IsWeb.len_giv (hw : IsWeb W) {h : Nat} (hh : h < W.gives.length) : (Uv.giv W h).length ≤ 20 := by rw [(hw.giv hh).length_eq]; exact Nat.le_trans atR_len hw.count.2
theorem IsWeb.len_tak (hw : IsWeb W) {h : Nat} (hh : h < W.gives.length) : (Uv.tak W h).length ≤ 20 := by rw [(hw.tak hh).length_eq]; exact Nat.le_trans atR_len hw.count.2
theorem Bears.at (hf : Bears W f) (k : Nat) : 0 ≤ at0 f k := by
  by_cases h : k < f.length
  · rw [at0_eq h]; exact hf.nn _ (List.getElem_mem h)
  · simp [at0, h]
/-- what comes behind in an order -/
theorem mem_after {l : List Nat} (nd : l.Nodup) {k j : Nat} : j ∈ l.drop (l.idxOf k + 1) ↔ j ∈ l ∧ l.idxOf k < l.idxOf j := by
  constructor
  · intro h
    have hm := List.mem_of_mem_drop h
    refine ⟨hm, ?_⟩
    obtain ⟨i, hi, e⟩ := List.mem_iff_getElem.mp h
    rw [List.getElem_drop] at e
    have hl : l.idxOf k + 1 + i < l.length := by simp at hi; omega
    have := Fn.idx_of nd hl
    rw [e] at this
    omega
  · rintro ⟨h1, h2⟩
    have hl := List.idxOf_lt_length_iff.mpr h1
    refine List.mem_iff_getElem.mpr ⟨l.idxOf j - (l.idxOf k + 1), by simp; omega, ?_⟩
    rw [List.getElem_drop]
    have e : l.idxOf k + 1 + (l.idxOf j - (l.idxOf k + 1)) = l.idxOf j := by omega
    simp only [e]
    exact List.getElem_idxOf hl
theorem lessB_iff {o : List Nat} (nd : o.Nodup) {k : Nat} : lessB f o k = true ↔ ∃ j ∈ o, o.idxOf k < o.idxOf j ∧ 0 < at0 f j := by
  unfold lessB
  rw [List.any_eq_true]
  constructor
  · rintro ⟨j, hj, h⟩
    obtain ⟨h1, h2⟩ := (mem_after nd).mp hj
    exact ⟨j, h1, h2, of_decide_eq_true h⟩
  · rintro ⟨j, h1, h2, h3⟩
    exact ⟨j, (mem_after nd).mpr ⟨h1, h2⟩, decide_eq_true h3⟩
/-! the web turned -/
def turnR (x : Road) : Road := ⟨x.e, x.b, x.r⟩
def turnW (W : Web) : Web := ⟨W.roads.map turnR, W.takes, W.gives⟩
theorem turnW_turnW : turnW (turnW W) = W := by
  cases W with
  | mk r g t =>
    unfold turnW
    simp only [List.map_map]
    congr 1
    have : (turnR ∘ turnR) = id := by funext x; rfl
    rw [this, List.map_id]
theorem rd_turn {k : Nat} : Uv.rd (turnW W) k = turnR (Uv.rd W k) := by
  unfold Uv.rd turnW
  simp only [List.getD_eq_getElem?_getD, List.getElem?_map]
  cases W.roads[k]? <;> rfl
theorem side_turn {s : Nat} (hs : s < 2) {x : Road} : side s (turnR x) = side (1 - s) x := by
  have : s = 0 ∨ s = 1 := by omega
  rcases this with rfl | rfl <;> rfl
theorem atR_turn {rs : List Road} {s h : Nat} (hs : s < 2) : atR (rs.map turnR) s h = atR rs (1 - s) h := by
  unfold atR
  rw [List.zipIdx_map, List.filter_map, List.map_map]
  congr 1
  apply List.filter_congr
  rintro ⟨x, i⟩ _
  show (side s (turnR x) == some h) = _
  rw [side_turn hs]
theorem IsWeb.turn (hw : IsWeb W) : IsWeb (turnW W) := by
  refine ⟨?_, hw.same.symm, by simpa [turnW] using hw.count, fun x hx => ?_, fun h l e => ?_, fun h l e => ?_⟩
  · show 1 ≤ W.takes.length ∧ W.takes.length ≤ 8
    rw [hw.same]; exact hw.houses
  · obtain ⟨y, hy, rfl⟩ := List.mem_map.mp hx
    show OkRoad W.takes.length _
    rw [hw.same]
    obtain ⟨a, b, c, d⟩ := hw.road y hy
    exact ⟨fun z => a z.symm, c, b, d⟩
  · show l.Perm (atR (W.roads.map turnR) 0 h)
    rw [atR_turn (by omega)]
    exact hw.take h l e
  · show l.Perm (atR (W.roads.map turnR) 1 h)
    rw [atR_turn (by omega)]
    exact hw.give h l e
theorem Bears.turn (hf : Bears W f) : Bears (turnW W) f := ⟨by simpa [turnW] using hf.len, hf.nn⟩
/-- the houses outside a lot -/
def restL (n : Nat) (lot : List Nat) : List Nat := (List.range n).filter fun h => !lot.contains h
theorem restL_lot {n : Nat} {lot : List Nat} : IsLot n (restL n lot) := ⟨List.Pairwise.filter _ List.pairwise_lt_range, fun x hx => List.mem_range.mp (List.mem_filter.mp hx).1⟩
theorem restL_con {n : Nat} {lot : List Nat} {h : Nat} (hh : h < n) : (restL n lot).contains h = !lot.contains h := by
  apply Bool.eq_iff_iff.mpr
  rw [List.contains_iff_mem]
  unfold restL
  rw [List.mem_filter]
  simp [hh]
theorem calm_turn (hw : IsWeb W) {lot : List Nat} : calmB (turnW W) f (restL W.gives.length lot) = calmB W f lot := by
  unfold calmB
  have e : (turnW W).roads.length = W.roads.length := by simp [turnW]
  rw [e]
  apply Bool.eq_iff_iff.mpr
  rw [List.all_eq_true, List.all_eq_true]
  have key : ∀ k ∈ List.range W.roads.length, (!(openB (turnW W) f k && pushB (turnW W) f (restL W.gives.length lot) k && pullB (turnW W) f (restL W.gives.length lot) k)) = !(openB W f k && pushB W f lot k && pullB W f lot k) := fun k hk => by
    have hk := List.mem_range.mp hk
    have ok := hw.rd hk
    have e1 : openB (turnW W) f k = openB W f k := by unfold openB; rw [rd_turn]; rfl
    have e2 : pushB (turnW W) f (restL W.gives.length lot) k = pullB W f lot k := by
      unfold pushB pullB
      rw [rd_turn]
      show (match (Uv.rd W k).e with | none => true | some h => _) = _
      cases hx : (Uv.rd W k).e with
      | none => rfl
      | some h =>
        show ((restL W.gives.length lot).contains h || _) = _
        rw [restL_con (ok.2.2.1 h hx)]
        rfl
    have e3 : pullB (turnW W) f (restL W.gives.length lot) k = pushB W f lot k := by
      unfold pushB pullB
      rw [rd_turn]
      show (match (Uv.rd W k).b with | none => true | some h => _) = _
      cases hx : (Uv.rd W k).b with
      | none => rfl
      | some h =>
        show ((!(restL W.gives.length lot).contains h) || _) = _
        rw [restL_con (ok.2.1 h hx), Bool.not_not]
        rfl
    rw [e1, e2, e3]
    cases openB W f k <;> cases pushB W f lot k <;> cases pullB W f lot k <;> rfl
  constructor
  · exact fun h k hk => by rw [← key k hk]; exact h k hk
  · exact fun h k hk => by rw [key k hk]; exact h k hk
end
end Uv

namespace Fn
open PySem PySem.Spec PyProof.Rows L2 Uv
/-! the program's words on lots -/
section
variable {W : Web} {f : List Int} {lot : List Nat}
theorem cut_nats {l : List Nat} {k : Nat} : slP (natsD l) (some ((k : Int) + 1)) none = some (natsD (l.drop (k + 1))) := by
  unfold natsD
  rw [q_sl_t, cut_from, List.map_drop]
theorem cut_nats1 {l : List Nat} : slP (natsD l) (some 1) none = some (natsD (l.drop 1)) := cut_nats (k := 0)
theorem p_borne {l : List Nat} (h : ∀ j ∈ l, j < f.length) (hl : l.length ≤ 40000) : F_borne [intsD f, natsD l] = some (.int (l.map (at0 f)).sum) := by
  refine eq_of_wp ?_
  unfold F_borne
  refine wp_runP rfl ?_
  unfold X_borne
  simp -implicitDefEqProofs
  refine ⟨hl, wp_lcT (fun j => .int (at0 f j)) (fun j hj => ?_) ?_⟩
  · simp -implicitDefEqProofs [atI_bears (h j hj)]
  · simp -implicitDefEqProofs [q_sum]
theorem p_less {o : List Nat} {k : Nat} (nn : ∀ j, 0 ≤ at0 f j) (hk : k ∈ o) (h : ∀ j ∈ o, j < f.length) (hl : o.length ≤ 40000) : F_has_less_liked [intsD f, natsD o, natD k] = some (.bool (lessB f o k)) := by
  refine eq_of_wp ?_
  unfold F_has_less_liked
  refine wp_runP rfl ?_
  unfold X_has_less_liked
  simp -implicitDefEqProofs [n_idx hk, cut_nats]
  rw [p_borne (fun j hj => h j (List.mem_of_mem_drop hj)) (by simp; omega)]
  simp -implicitDefEqProofs [-List.map_drop]
  unfold lessB
  apply Bool.eq_iff_iff.mpr
  rw [decide_eq_true_iff, List.any_eq_true]
  constructor
  · intro z
    obtain ⟨j, h1, h2⟩ := Calm.sm_pos (l := o.drop (o.idxOf k + 1)) (g := at0 f) (fun j _ => nn j) z
    exact ⟨j, h1, decide_eq_true h2⟩
  · rintro ⟨j, h1, h2⟩
    apply Classical.byContradiction
    intro z
    have := Calm.sm_zero (l := o.drop (o.idxOf k + 1)) (g := at0 f) (fun j _ => nn j) (by show (List.map (at0 f) _).sum ≤ 0; omega) j h1
    have := of_decide_eq_true h2
    omega
theorem p_first (hw : IsWeb W) (hf : Bears W f) {k : Nat} (hk : k < W.roads.length) : F_first_gladly [webD W, intsD f, natD k] = some (.bool (match (rd W k).b with | none => true | some h => lessB f (giv W h) k)) := by
  refine eq_of_wp ?_
  unfold F_first_gladly
  refine wp_runP rfl ?_
  unfold X_first_gladly
  simp -implicitDefEqProofs [atI_road hk]
  cases hx : (rd W k).b with
  | none => simp -implicitDefEqProofs [endD]
  | some h =>
    have hh := (hw.rd hk).2.1 h hx
    simp -implicitDefEqProofs [endD, atI_giv hh]
    rw [p_less hf.at ((hw.mem_giv hh).mpr ⟨hk, hx⟩) (fun j hj => by rw [hf.len]; exact ((hw.mem_giv hh).mp hj).1) (by have := hw.len_giv hh; omega)]
    simp -implicitDefEqProofs
theorem p_last (hw : IsWeb W) (hf : Bears W f) {k : Nat} (hk : k < W.roads.length) : F_last_gladly [webD W, intsD f, natD k] = some (.bool (match (rd W k).e with | none => true | some h => lessB f (tak W h) k)) := by
  refine eq_of_wp ?_
  unfold F_last_gladly
  refine wp_runP rfl ?_
  unfold X_last_gladly
  simp -implicitDefEqProofs [atI_road hk]
  cases hx : (rd W k).e with
  | none => simp -implicitDefEqProofs [endD]
  | some h =>
    have hh := (hw.rd hk).2.2.1 h hx
    simp -implicitDefEqProofs [endD, atI_tak (show h < W.takes.length by rw [hw.same]; exact hh)]
    rw [p_less hf.at ((hw.mem_tak hh).mpr ⟨hk, hx⟩) (fun j hj => by rw [hf.len]; exact ((hw.mem_tak hh).mp hj).1) (by have := hw.len_tak hh; omega)]
    simp -implicitDefEqProofs
theorem p_stopped (hw : IsWeb W) (hf : Bears W f) {k : Nat} (hk : k < W.roads.length) : F_is_stopped [webD W, intsD f, natsD lot, natD k] = some (.bool (!pullB W f lot k)) := by
  refine eq_of_wp ?_
  unfold F_is_stopped
  refine wp_runP rfl ?_
  unfold X_is_stopped
  simp -implicitDefEqProofs [atI_road hk, in_end, p_last hw hf hk]
  unfold pullB
  cases hx : (rd W k).e with
  | none => rfl
  | some h => simp [inO]
def pressL (W : Web) (f : List Int) (lot : List Nat) : List Nat := (List.range W.roads.length).filter fun k => openB W f k && pushB W f lot k
theorem zip_rd {p : Nat → Bool} : (W.roads.zipIdx.filter fun q => p q.2).map (fun q => natD q.2) = ((List.range W.roads.length).filter p).map natD := by
  have e : List.range W.roads.length = W.roads.zipIdx.map (·.2) := by
    rw [show (fun (p : Road × Nat) => p.2) = Prod.snd from rfl, List.zipIdx_map_snd, List.range_eq_range']
  rw [e, List.filter_map, List.map_map]
  rfl
theorem p_pressed (hw : IsWeb W) (hf : Bears W f) : F_pressed [webD W, intsD f, natsD lot] = some (.list ((pressL W f lot).map natD)) := by
  have hc := hw.count
  refine eq_of_wp ?_
  unfold F_pressed
  refine wp_runP rfl ?_
  unfold X_pressed
  simp -implicitDefEqProofs
  refine ⟨by omega, wp_lcE (fun q => openB W f q.2 && pushB W f lot q.2) (fun q => natD q.2) (fun k hk => ?_) ?_⟩
  · simp -implicitDefEqProofs [atI_bears (show k < f.length by rw [hf.len]; exact hk), in_end, p_first hw hf hk, ← rd_eq hk]
    unfold openB pushB
    cases hx : (rd W k).b with
    | none => simp [inO]
    | some h => simp [inO]
  · rw [zip_rd (p := fun k => openB W f k && pushB W f lot k)]
    simp -implicitDefEqProofs
    rfl
theorem lot_len {n : Nat} {l : List Nat} (h : IsLot n l) : l.length ≤ n := by
  have nd : l.Nodup := h.up.imp fun h => by omega
  have := List.Nodup.length_le_of_subset nd (l₂ := List.range n) fun x hx => List.mem_range.mpr (h.lt x hx)
  simpa using this
theorem p_is_lot (hw : IsWeb W) (hl : IsLot W.gives.length lot) : F_is_lot [webD W, natsD lot] = some (.bool true) := by
  have l1 := lot_len hl
  have l2 := hw.houses
  refine eq_of_wp ?_
  unfold F_is_lot
  refine wp_runP rfl ?_
  unfold X_is_lot
  simp -implicitDefEqProofs
  have e1 : F_is_tuple_of [natsD lot, .int 0, natD W.gives.length] = some (.bool true) := by
    unfold natsD
    rw [p_is_tuple_of]
    simp
    omega
  simp -implicitDefEqProofs [e1]
  refine ⟨by omega, wp_lcT (fun _ => .bool true) (fun j hj => ?_) ?_⟩
  · have := hl.lt j hj
    simp -implicitDefEqProofs
    omega
  rw [show (fun _ : Nat => PyData.bool true) = fun x => PyData.bool ((fun _ => true) x) from rfl]
  simp -implicitDefEqProofs [q_all, cut_nats1]
  unfold natsD
  rw [q_zip_t, zipD_map]
  simp -implicitDefEqProofs
  refine ⟨by omega, wp_lcT (fun _ => .bool true) (fun p hp => ?_) ?_⟩
  · obtain ⟨i, hi, e⟩ := List.mem_iff_getElem.mp hp
    simp -implicitDefEqProofs
    simp at hi e
    rw [← e]
    have := List.pairwise_iff_getElem.mp hl.up i (i + 1) (by omega) (by omega) (by omega)
    simp
    omega
  rw [show (fun _ : Nat × Nat => PyData.bool true) = fun x => PyData.bool ((fun _ => true) x) from rfl]
  simp -implicitDefEqProofs [q_all]
theorem p_calms (hw : IsWeb W) (hf : Bears W f) (hl : IsLot W.gives.length lot) : F_calms [webD W, intsD f, natsD lot] = some (.bool (calmB W f lot)) := by
  refine eq_of_wp ?_
  unfold F_calms
  refine wp_runP rfl ?_
  unfold X_calms
  have hc := hw.count
  have pl : (pressL W f lot).length ≤ W.roads.length := by unfold pressL; exact Nat.le_trans (List.length_filter_le ..) (by simp)
  simp -implicitDefEqProofs [p_is_lot hw hl, p_pressed hw hf]
  refine ⟨by omega, wp_lcT (fun k => .bool (!pullB W f lot k)) (fun k hk => ?_) ?_⟩
  · have hk := List.mem_range.mp (List.mem_filter.mp hk).1
    simp -implicitDefEqProofs [p_stopped hw hf hk]
  simp -implicitDefEqProofs [q_all]
  unfold calmB pressL
  apply Bool.eq_iff_iff.mpr
  rw [List.all_eq_true, List.all_eq_true]
  constructor
  · intro h k hk
    by_cases c : (openB W f k && pushB W f lot k) = true
    · have := h k (List.mem_filter.mpr ⟨hk, c⟩)
      rw [c, Bool.true_and]
      exact this
    · rw [Bool.not_eq_true] at c
      rw [c]
      rfl
  · intro h k hk
    obtain ⟨h1, h2⟩ := List.mem_filter.mp hk
    have := h k h1
    rw [h2, Bool.true_and] at this
    exact this
end
end Fn

namespace Fn
open PySem PySem.Spec PyProof.Rows L2 Uv
section
variable {W : Web} {f : List Int} {lot : List Nat}
def widerL (W : Web) (f : List Int) (lot : List Nat) : List Nat := (List.range W.gives.length).filter fun h => lot.contains h || ((pressL W f lot).map fun k => (rd W k).e).contains (some h)
theorem p_wider (hw : IsWeb W) (hf : Bears W f) : F_with_pressed [webD W, intsD f, natsD lot] = some (natsD (widerL W f lot)) := by
  refine eq_of_wp ?_
  unfold F_with_pressed
  refine wp_runP rfl ?_
  unfold X_with_pressed
  have hc := hw.count
  have hh := hw.houses
  have pl : (pressL W f lot).length ≤ W.roads.length := by unfold pressL; exact Nat.le_trans (List.length_filter_le ..) (by simp)
  simp -implicitDefEqProofs [p_pressed hw hf]
  refine ⟨by omega, wp_lcT (fun k => endD (rd W k).e) (fun k hk => ?_) ?_⟩
  · have hk := List.mem_range.mp (List.mem_filter.mp hk).1
    simp -implicitDefEqProofs [atI_road hk]
  have e : ((pressL W f lot).map fun k => endD (rd W k).e) = ((pressL W f lot).map fun k => (rd W k).e).map endD := by rw [List.map_map]; rfl
  obtain ⟨es, hes⟩ : ∃ es, ((pressL W f lot).map fun k => (rd W k).e) = es := ⟨_, rfl⟩
  have ew : widerL W f lot = (List.range W.gives.length).filter fun h => lot.contains h || es.contains (some h) := by rw [← hes]; rfl
  rw [e, hes, ew]
  simp -implicitDefEqProofs
  refine ⟨in62_nat (by omega), by omega, wp_lc (fun h => lot.contains h || es.contains (some h)) natD (fun h hh => ?_) ?_⟩
  · simp -implicitDefEqProofs [in_nat, in_ends, -List.contains_eq_mem]
  · simp -implicitDefEqProofs [-List.contains_eq_mem]
    rfl
theorem wider_lot : IsLot W.gives.length (widerL W f lot) := ⟨List.Pairwise.filter _ List.pairwise_lt_range, fun x hx => List.mem_range.mp (List.mem_filter.mp hx).1⟩
theorem mem_wider {h : Nat} : h ∈ widerL W f lot ↔ h < W.gives.length ∧ (h ∈ lot ∨ ∃ k, k < W.roads.length ∧ openB W f k = true ∧ pushB W f lot k = true ∧ (rd W k).e = some h) := by
  unfold widerL
  rw [List.mem_filter, List.mem_range, Bool.or_eq_true, List.contains_iff_mem, List.contains_iff_mem, List.mem_map]
  unfold pressL
  constructor
  · rintro ⟨h1, h2 | ⟨k, h2, h3⟩⟩
    · exact ⟨h1, .inl h2⟩
    · obtain ⟨h4, h5⟩ := List.mem_filter.mp h2
      rw [Bool.and_eq_true] at h5
      exact ⟨h1, .inr ⟨k, List.mem_range.mp h4, h5.1, h5.2, h3⟩⟩
  · rintro ⟨h1, h2 | ⟨k, h2, h3, h4, h5⟩⟩
    · exact ⟨h1, .inl h2⟩
    · exact ⟨h1, .inr ⟨k, List.mem_filter.mpr ⟨List.mem_range.mpr h2, by rw [h3, h4]; rfl⟩, h5⟩⟩
theorem push_mono {lot lot' : List Nat} (h : ∀ x ∈ lot, x ∈ lot') {k : Nat} (hp : pushB W f lot k = true) : pushB W f lot' k = true := by
  unfold pushB at hp ⊢
  cases hx : (rd W k).b with
  | none => rfl
  | some j =>
    rw [hx] at hp
    rw [Bool.or_eq_true, List.contains_iff_mem] at hp ⊢
    exact hp.imp (h j) id
theorem calm_iff : calmB W f lot = true ↔ ∀ k, k < W.roads.length → openB W f k = true → pushB W f lot k = true → pullB W f lot k = false := by
  unfold calmB
  rw [List.all_eq_true]
  constructor
  · intro h k hk h1 h2
    have := h k (List.mem_range.mpr hk)
    rw [h1, h2, Bool.true_and] at this
    simpa using this
  · intro h k hk
    have := h k (List.mem_range.mp hk)
    cases h1 : openB W f k
    · rfl
    · cases h2 : pushB W f lot k
      · rfl
      · rw [this h1 h2]; rfl
theorem pull_false {k : Nat} : pullB W f lot k = false ↔ ∃ h, (rd W k).e = some h ∧ h ∈ lot ∧ lessB f (tak W h) k = false := by
  unfold pullB
  cases hx : (rd W k).e with
  | none => simp
  | some h => simp
/-- the least lot lies within every lot that calms, and calms where one does -/
theorem wider_in {M : List Nat} (hM : calmB W f M = true) (h : ∀ x ∈ lot, x ∈ M) : ∀ x ∈ widerL W f lot, x ∈ M := by
  intro x hx
  obtain ⟨h1, h2 | ⟨k, hk, h3, h4, h5⟩⟩ := mem_wider.mp hx
  · exact h x h2
  · obtain ⟨y, e, hy, _⟩ := pull_false.mp (calm_iff.mp hM k hk h3 (push_mono h h4))
    rw [h5] at e
    rw [Option.some.inj e]
    exact hy
theorem fix_calms (hw : IsWeb W) {M : List Nat} (hM : calmB W f M = true) (h : ∀ x ∈ lot, x ∈ M) (fx : widerL W f lot = lot) : calmB W f lot = true := by
  refine calm_iff.mpr fun k hk h1 h2 => ?_
  obtain ⟨y, e, hy, z⟩ := pull_false.mp (calm_iff.mp hM k hk h1 (push_mono h h2))
  refine pull_false.mpr ⟨y, e, ?_, z⟩
  rw [← fx]
  exact mem_wider.mpr ⟨(hw.rd hk).2.2.1 y e, .inr ⟨k, hk, h1, h2, e⟩⟩
theorem lot_ext {n : Nat} {a b : List Nat} (ha : IsLot n a) (hb : IsLot n b) (h : ∀ x ∈ a, x ∈ b) (hl : b.length ≤ a.length) : a = b := by
  have sub : a.Sublist b := by
    have e : a = b.filter fun x => a.contains x := by
      have p1 : (b.filter fun x => a.contains x).Pairwise (· < ·) := hb.up.filter _
      have key : ∀ {x y : List Nat}, x.Pairwise (· < ·) → y.Pairwise (· < ·) → (∀ z, z ∈ x ↔ z ∈ y) → x = y := by
        intro x y hx hy hxy
        refine List.Perm.eq_of_pairwise (le := fun a b => a < b) (fun a b _ _ h1 h2 => by omega) hx hy ?_
        exact (List.perm_ext_iff_of_nodup (hx.imp fun h => by omega) (hy.imp fun h => by omega)).mpr hxy
      refine key ha.up p1 fun z => ?_
      rw [List.mem_filter, List.contains_iff_mem]
      exact ⟨fun hz => ⟨h z hz, hz⟩, fun hz => hz.2⟩
    rw [e]
    exact List.filter_sublist
  exact sub.eq_of_length_le hl
theorem p_least (hw : IsWeb W) (hf : Bears W f) {b : Bool} (hb : b = true ↔ ∃ M, IsLot W.gives.length M ∧ calmB W f M = true) {Q : PD → Prop} (hq : ∀ d, isNone d = !b → Q d) : wp (F_least_lot [webD W, intsD f]) (tag Q) := by
  unfold F_least_lot
  refine wp_runP rfl ?_
  unfold X_least_lot
  have hh := hw.houses
  have e0 : PyData.tuple [] = natsD [] := rfl
  simp -implicitDefEqProofs
  rw [e0]
  simp -implicitDefEqProofs [p_wider hw hf]
  refine wp_while (fun m ρ => ∃ (lot : List Nat), ρ = [.dat (webD W), .dat (intsD f), .dat (natsD lot), .dat (natsD (widerL W f lot))] ∧ m = W.gives.length - lot.length ∧ IsLot W.gives.length lot ∧ ∀ M, calmB W f M = true → ∀ x ∈ lot, x ∈ M) (@fuel_lt kk0 _ (show W.gives.length < 100000 by omega)) ⟨[], rfl, rfl, ⟨.nil, by simp⟩, by simp⟩ ?_
  rintro m ρ ⟨lot, rfl, hm, hl, hin⟩
  simp -implicitDefEqProofs [ne_tups]
  refine ⟨fun fx => ?_, fun nfx => ?_⟩
  · simp -implicitDefEqProofs [p_calms hw hf hl]
    cases hc : calmB W f lot with
    | true =>
      simp -implicitDefEqProofs
      have : b = true := hb.mpr ⟨lot, hl, hc⟩
      exact hq _ (by rw [this]; rfl)
    | false =>
      simp -implicitDefEqProofs
      have : b = false := by
        cases hb' : b with
        | false => rfl
        | true =>
          obtain ⟨M, _, hM⟩ := hb.mp hb'
          rw [fix_calms hw hM (hin M hM) fx] at hc
          exact nomatch hc
      exact hq _ (by rw [this]; rfl)
  · unfold X_least_lot_b1
    simp -implicitDefEqProofs [p_wider hw hf]
    have sub : ∀ x ∈ lot, x ∈ widerL W f lot := fun x hx => mem_wider.mpr ⟨hl.lt x hx, .inl hx⟩
    have : lot.length < (widerL W f lot).length := by
      apply Classical.byContradiction
      intro z
      exact nfx (lot_ext hl wider_lot sub (by omega)).symm
    have l2 := lot_len (wider_lot (W := W) (f := f) (lot := lot))
    exact ⟨W.gives.length - (widerL W f lot).length, by omega, widerL W f lot, rfl, rfl, wider_lot, fun M hM => wider_in hM (hin M hM)⟩
theorem p_is_calm (hw : IsWeb W) (hf : Bears W f) {b : Bool} (hb : b = true ↔ ∃ M, IsLot W.gives.length M ∧ calmB W f M = true) : F_is_calm [webD W, intsD f] = some (.bool b) := by
  refine eq_of_wp ?_
  unfold F_is_calm
  refine wp_runP rfl ?_
  unfold X_is_calm
  simp -implicitDefEqProofs
  refine p_least hw hf hb fun d hd => ?_
  simp -implicitDefEqProofs [hd]
theorem turn_eq : PyData.tuple [.tuple (W.roads.map fun x => roadD (turnR x)), .tuple (W.takes.map natsD), .tuple (W.gives.map natsD)] = webD (turnW W) := by
  unfold webD turnW
  rw [List.map_map]
  rfl
theorem p_turned (hc : W.roads.length ≤ 40000) : F_turned [webD W] = some (webD (turnW W)) := by
  refine eq_of_wp ?_
  unfold F_turned
  refine wp_runP rfl ?_
  unfold X_turned
  simp -implicitDefEqProofs
  refine ⟨hc, wp_lcT (fun x => roadD (turnR x)) (fun x hx => ?_) ?_⟩
  · simp -implicitDefEqProofs
    rfl
  · simp -implicitDefEqProofs
    exact turn_eq
end
end Fn

namespace Fn
open PySem PySem.Spec PyProof.Rows L2 Uv
section
variable {W : Web} {f : List Int} {lot : List Nat}
/-! family E: its own words on streams and lots -/
theorem fil_empty {α : Type} {l : List α} {p : α → Bool} : (l.filter p).isEmpty = !l.any p := by
  induction l with
  | nil => rfl
  | cons x xs ih =>
    rw [List.filter_cons, List.any_cons]
    cases h : p x
    · simpa using ih
    · rfl
theorem e_less {o : List Nat} {k : Nat} (hk : k ∈ o) (h : ∀ j ∈ o, j < f.length) (hl : o.length ≤ 40000) : F__law_less_d [natsD o, natD k, intsD f] = some (.bool (lessB f o k)) := by
  refine eq_of_wp ?_
  unfold F__law_less_d
  refine wp_runP rfl ?_
  unfold X__law_less_d
  simp -implicitDefEqProofs [n_idx hk, cut_nats, -List.map_drop]
  refine ⟨by omega, wp_lc (fun j => decide (0 < at0 f j)) natD (fun j hj => ?_) ?_⟩
  · simp -implicitDefEqProofs [atI_bears (h j (List.mem_of_mem_drop hj))]
  · simp -implicitDefEqProofs [ne_nilN]
    unfold lessB
    exact fil_empty
theorem e_calms (hw : IsWeb W) (hf : f.length = W.roads.length) : F__law_calms_d [webD W, intsD f, natsD lot] = some (.bool (calmB W f lot)) := by
  refine eq_of_wp ?_
  unfold F__law_calms_d
  refine wp_runP rfl ?_
  unfold X__law_calms_d
  have hc := hw.count
  simp -implicitDefEqProofs
  refine ⟨in62_nat (by omega), ?_⟩
  refine wp_forR (fun k ρ => ∃ (z3 z4 z5 z6 z7 : Sl), ρ = [.dat (webD W), .dat (intsD f), .dat (natsD lot), z3, z4, z5, z6, z7] ∧ ∀ j < k, (!(openB W f j && pushB W f lot j && pullB W f lot j)) = true) ⟨_, _, _, _, _, rfl, by simp⟩ ?_ ?_
  · rintro k hk ρ ⟨z3, z4, z5, z6, z7, rfl, hj⟩
    unfold X__law_calms_d_b1
    have ok := hw.rd hk
    simp -implicitDefEqProofs [atI_road hk]
    have l1 : ∀ h, (rd W k).b = some h → atI (W.gives.map natsD) (h : Int) = some (natsD (giv W h)) ∧ F__law_less_d [natsD (giv W h), natD k, intsD f] = some (.bool (lessB f (giv W h) k)) := fun h hx => by
      have hh := ok.2.1 h hx
      exact ⟨atI_giv hh, e_less ((hw.mem_giv hh).mpr ⟨hk, hx⟩) (fun j hj => by rw [hf]; exact ((hw.mem_giv hh).mp hj).1) (by have := hw.len_giv hh; omega)⟩
    have l2 : ∀ h, (rd W k).e = some h → atI (W.takes.map natsD) (h : Int) = some (natsD (tak W h)) ∧ F__law_less_d [natsD (tak W h), natD k, intsD f] = some (.bool (lessB f (tak W h) k)) := fun h hx => by
      have hh := ok.2.2.1 h hx
      exact ⟨atI_tak (by rw [hw.same]; exact hh), e_less ((hw.mem_tak hh).mpr ⟨hk, hx⟩) (fun j hj => by rw [hf]; exact ((hw.mem_tak hh).mp hj).1) (by have := hw.len_tak hh; omega)⟩
    have kf : k < f.length := by omega
    have nxt : (openB W f k && pushB W f lot k && pullB W f lot k) = false → ∀ j < k + 1, (!(openB W f j && pushB W f lot j && pullB W f lot j)) = true := fun z j hj' => by
      by_cases c : j = k
      · subst c; rw [z]; rfl
      · exact hj j (by omega)
    have bad : (openB W f k && pushB W f lot k && pullB W f lot k) = true → calmB W f lot = false := fun z => by
      cases hc : calmB W f lot with
      | false => rfl
      | true =>
        unfold calmB at hc
        have := List.all_eq_true.mp hc k (List.mem_range.mpr hk)
        rw [z] at this
        exact nomatch this
    have eo : openB W f k = decide (at0 f k < (rd W k).r) := rfl
    have ep : pushB W f lot k = match (rd W k).b with | none => true | some h => lot.contains h || lessB f (giv W h) k := rfl
    have el : pullB W f lot k = match (rd W k).e with | none => true | some h => !lot.contains h || lessB f (tak W h) k := rfl
    cases hb : (rd W k).b with
    | none =>
      rw [hb] at ep
      cases he : (rd W k).e with
      | none =>
        rw [he] at el
        simp -implicitDefEqProofs [endD, atI_bears kf]
        refine wp_alt (fun c => ?_) (fun c => ?_)
        · simp -implicitDefEqProofs
          exact bad (by rw [eo, ep, el, c]; rfl)
        · simp -implicitDefEqProofs
          exact ⟨_, _, _, _, _, rfl, nxt (by rw [eo, c]; rfl)⟩
      | some h' =>
        rw [he] at el
        simp -implicitDefEqProofs [endD, atI_bears kf]
        refine wp_alt (fun c => ?_) (fun c => ?_)
        · simp -implicitDefEqProofs [l2 h' he, notin_nat, -List.contains_eq_mem]
          refine wp_alt (fun c2 => ?_) (fun c2 => ?_)
          · simp -implicitDefEqProofs
            exact bad (by rw [eo, ep, el, c]; exact c2)
          · simp -implicitDefEqProofs
            exact ⟨_, _, _, _, _, rfl, nxt (by rw [eo, ep, el, c]; exact c2)⟩
        · simp -implicitDefEqProofs
          exact ⟨_, _, _, _, _, rfl, nxt (by rw [eo, c]; rfl)⟩
    | some h =>
      rw [hb] at ep
      cases he : (rd W k).e with
      | none =>
        rw [he] at el
        simp -implicitDefEqProofs [endD, atI_bears kf, l1 h hb, in_nat, -List.contains_eq_mem]
        rw [show (lot.contains h || lessB f (giv W h) k) = pushB W f lot k from ep.symm]
        refine wp_alt (fun c => ?_) (fun c => ?_)
        · simp -implicitDefEqProofs
          exact bad (by rw [eo, el, Bool.and_true, Bool.and_comm]; exact c)
        · simp -implicitDefEqProofs
          exact ⟨_, _, _, _, _, rfl, nxt (by rw [eo, el, Bool.and_true, Bool.and_comm]; exact c)⟩
      | some h' =>
        rw [he] at el
        simp -implicitDefEqProofs [endD, atI_bears kf, l1 h hb, in_nat, -List.contains_eq_mem]
        rw [show (lot.contains h || lessB f (giv W h) k) = pushB W f lot k from ep.symm]
        refine wp_alt (fun c => ?_) (fun c => ?_)
        · simp -implicitDefEqProofs [l2 h' he, notin_nat, -List.contains_eq_mem]
          have c' : (openB W f k && pushB W f lot k) = true := by rw [eo, Bool.and_comm]; exact c
          refine wp_alt (fun c2 => ?_) (fun c2 => ?_)
          · simp -implicitDefEqProofs
            exact bad (by rw [c', el]; exact c2)
          · simp -implicitDefEqProofs
            exact ⟨_, _, _, _, _, rfl, nxt (by rw [c', el]; exact c2)⟩
        · have c' : (openB W f k && pushB W f lot k) = false := by rw [eo, Bool.and_comm]; exact c
          simp -implicitDefEqProofs
          exact ⟨_, _, _, _, _, rfl, nxt (by rw [c']; rfl)⟩
  · rintro ρ ⟨z3, z4, z5, z6, z7, rfl, hj⟩
    simp -implicitDefEqProofs
    unfold calmB
    rw [List.all_eq_true]
    exact fun k hk => hj k (List.mem_range.mp hk)
end
end Fn

namespace Fn
open PySem PySem.Spec PyProof.Rows L2 Uv
/-- every lot of some houses -/
def lots : Nat → List (List Nat)
  | 0 => [[]]
  | n + 1 => lots n ++ (lots n).map fun l => l ++ [n]
theorem lots_len : ∀ n, (lots n).length = 2 ^ n
  | 0 => rfl
  | n + 1 => by rw [lots, List.length_append, List.length_map, lots_len n]; omega
theorem mem_lots : ∀ {n : Nat} {l : List Nat}, l ∈ lots n ↔ IsLot n l
  | 0, l => by
    constructor
    · intro h
      have : l = [] := by simpa [lots] using h
      subst this
      exact ⟨.nil, by simp⟩
    · intro h
      cases l with
      | nil => simp [lots]
      | cons x xs => exact absurd (h.lt x (List.mem_cons_self ..)) (by omega)
  | n + 1, l => by
    rw [lots, List.mem_append, List.mem_map]
    constructor
    · rintro (h | ⟨m, h, rfl⟩)
      · have := mem_lots.mp h
        exact ⟨this.up, fun x hx => by have := this.lt x hx; omega⟩
      · have := mem_lots.mp h
        refine ⟨List.pairwise_append.mpr ⟨this.up, List.pairwise_singleton .., fun a ha b hb => ?_⟩, fun x hx => ?_⟩
        · have := this.lt a ha
          rw [List.mem_singleton.mp hb]
          exact this
        · rcases List.mem_append.mp hx with h | h
          · have := this.lt x h; omega
          · rw [List.mem_singleton.mp h]; omega
    · intro h
      by_cases c : n ∈ l
      · refine .inr ⟨l.dropLast, ?_, ?_⟩
        · have ne : l ≠ [] := fun z => by rw [z] at c; exact nomatch c
          have e := List.dropLast_concat_getLast ne
          have up := h.up
          rw [← e] at up
          obtain ⟨u1, _, u3⟩ := List.pairwise_append.mp up
          refine mem_lots.mpr ⟨u1, fun x hx => ?_⟩
          have h1 := u3 x hx _ (List.mem_singleton.mpr rfl)
          have h2 := h.lt _ (List.getLast_mem ne)
          omega
        · have ne : l ≠ [] := fun z => by rw [z] at c; exact nomatch c
          have e := List.dropLast_concat_getLast ne
          have : l.getLast ne = n := by
            have h2 := h.lt _ (List.getLast_mem ne)
            rw [← e] at c
            rcases List.mem_append.mp c with c | c
            · have up := h.up
              rw [← e] at up
              have := (List.pairwise_append.mp up).2.2 n c _ (List.mem_singleton.mpr rfl)
              omega
            · exact (List.mem_singleton.mp c).symm
          rw [this] at e
          exact e
      · exact .inl (mem_lots.mpr ⟨h.up, fun x hx => by
          have h1 := h.lt x hx
          have : x ≠ n := fun z => c (z ▸ hx)
          omega⟩)
section
variable {W : Web} {f : List Int} {lot : List Nat}
theorem e_sets (hw : IsWeb W) : F__law_sets [webD W] = some (.list ((lots W.gives.length).map natsD)) := by
  refine eq_of_wp ?_
  unfold F__law_sets
  refine wp_runP rfl ?_
  unfold X__law_sets
  have hh := hw.houses
  simp -implicitDefEqProofs
  refine ⟨in62_nat (by omega), ?_⟩
  refine wp_forR (fun k ρ => ∃ (ds : List PD) (z2 z3 : Sl), ρ = [.dat (webD W), .dat (.list ds), z2, z3] ∧ ds = (lots k).map natsD) ⟨_, _, _, rfl, rfl⟩ ?_ ?_
  · rintro k hk ρ ⟨ds, z2, z3, rfl, rfl⟩
    unfold X__law_sets_b1
    have l1 := lots_len k
    have l2 : 2 ^ k ≤ 2 ^ 8 := Nat.pow_le_pow_right (by omega) (by omega)
    simp -implicitDefEqProofs
    refine ⟨by omega, wp_lcT (fun l => natsD (l ++ [k])) (fun l hl => ?_) ?_⟩
    · have := lot_len (mem_lots.mp hl)
      unfold natsD
      simp -implicitDefEqProofs
      omega
    · simp -implicitDefEqProofs
      refine ⟨by omega, ⟨_, _, _, rfl, ?_⟩⟩
      rw [lots, List.map_append, List.map_map]
      rfl
  · rintro ρ ⟨ds, z2, z3, rfl, rfl⟩
    simp -implicitDefEqProofs
/-! streams -/
def evenB (W : Web) (f : List Int) : Bool := (List.range W.gives.length).all fun h => decide (((giv W h).map (at0 f)).sum = ((tak W h).map (at0 f)).sum)
theorem e_even (hw : IsWeb W) (hf : f.length = W.roads.length) : F__law_even [webD W, intsD f] = some (.bool (evenB W f)) := by
  refine eq_of_wp ?_
  unfold F__law_even
  refine wp_runP rfl ?_
  unfold X__law_even
  have hh := hw.houses
  simp -implicitDefEqProofs
  refine ⟨in62_nat (by omega), ?_⟩
  refine wp_forR (fun k ρ => ∃ (z2 z3 : Sl), ρ = [.dat (webD W), .dat (intsD f), z2, z3] ∧ ∀ h < k, ((giv W h).map (at0 f)).sum = ((tak W h).map (at0 f)).sum) ⟨_, _, rfl, by simp⟩ ?_ ?_
  · rintro k hk ρ ⟨z2, z3, rfl, hj⟩
    unfold X__law_even_b1
    have l1 := hw.len_giv hk
    have l2 := hw.len_tak hk
    simp -implicitDefEqProofs [atI_giv hk]
    refine ⟨by omega, wp_lcT (fun j => .int (at0 f j)) (fun j hj => ?_) ?_⟩
    · have := ((hw.mem_giv hk).mp hj).1
      simp -implicitDefEqProofs [atI_bears (show j < f.length by omega)]
    simp -implicitDefEqProofs [q_sum, atI_tak (show k < W.takes.length by rw [hw.same]; exact hk)]
    refine ⟨by omega, wp_lcT (fun j => .int (at0 f j)) (fun j hj => ?_) ?_⟩
    · have := ((hw.mem_tak hk).mp hj).1
      simp -implicitDefEqProofs [atI_bears (show j < f.length by omega)]
    simp -implicitDefEqProofs [q_sum]
    refine wp_alt (fun c => ?_) (fun c => ?_)
    · simp -implicitDefEqProofs
      cases he : evenB W f with
      | false => rfl
      | true =>
        unfold evenB at he
        have := of_decide_eq_true (List.all_eq_true.mp he k (List.mem_range.mpr hk))
        rw [this] at c
        simp at c
    · simp -implicitDefEqProofs
      refine ⟨_, _, rfl, fun h hh => ?_⟩
      by_cases z : h = k
      · subst z
        simpa using c
      · exact hj h (by omega)
  · rintro ρ ⟨z2, z3, rfl, hj⟩
    simp -implicitDefEqProofs
    unfold evenB
    rw [List.all_eq_true]
    exact fun k hk => decide_eq_true (hj k (List.mem_range.mp hk))
/-- every way to bear on the first roads -/
def waysW (W : Web) : Nat → List (List Int)
  | 0 => [[]]
  | i + 1 => (waysW W i).flatMap fun s => (List.range ((rd W i).r + 1).toNat).map fun (x : Nat) => s ++ [(x : Int)]
theorem mem_ways : ∀ {i : Nat} {s : List Int}, s ∈ waysW W i ↔ s.length = i ∧ ∀ j < i, 0 ≤ at0 s j ∧ at0 s j ≤ (rd W j).r
  | 0, s => by
    constructor
    · intro h
      have : s = [] := by simpa [waysW] using h
      subst this
      exact ⟨rfl, by omega⟩
    · rintro ⟨h, _⟩
      rw [List.length_eq_zero_iff.mp h]
      simp [waysW]
  | i + 1, s => by
    rw [waysW, List.mem_flatMap]
    constructor
    · rintro ⟨t, ht, hs⟩
      obtain ⟨x, hx, rfl⟩ := List.mem_map.mp hs
      have hx := List.mem_range.mp hx
      obtain ⟨h1, h2⟩ := mem_ways.mp ht
      refine ⟨by simp [h1], fun j hj => ?_⟩
      by_cases c : j = i
      · subst c
        have : at0 (t ++ [(x : Int)]) j = x := by unfold at0; rw [← h1]; simp
        rw [this]
        omega
      · have : at0 (t ++ [(x : Int)]) j = at0 t j := by unfold at0; simp [List.getElem?_append_left (show j < t.length by omega)]
        rw [this]
        exact h2 j (by omega)
    · rintro ⟨h1, h2⟩
      have ne : s ≠ [] := fun z => by rw [z] at h1; simp at h1
      have e := List.dropLast_concat_getLast ne
      have dl : s.dropLast.length = i := by simp [h1]
      have a1 : ∀ j < i, at0 s j = at0 s.dropLast j := fun j hj => by
        conv => lhs; rw [← e]
        unfold at0
        simp [List.getElem?_append_left (show j < s.dropLast.length by omega)]
      have a2 : at0 s i = s.getLast ne := by
        conv => lhs; rw [← e]
        unfold at0
        rw [← dl]
        simp
      have h3 := h2 i (by omega)
      rw [a2] at h3
      refine ⟨s.dropLast, mem_ways.mpr ⟨dl, fun j hj => by rw [← a1 j hj]; exact h2 j (by omega)⟩, List.mem_map.mpr ⟨(s.getLast ne).toNat, List.mem_range.mpr (by omega), ?_⟩⟩
      rw [Int.toNat_of_nonneg h3.1]
      exact e
theorem flatMap_le {α β : Type} {l : List α} {g : α → List β} {c : Nat} (h : ∀ x ∈ l, (g x).length ≤ c) : (l.flatMap g).length ≤ l.length * c := by
  induction l with
  | nil => simp
  | cons x xs ih =>
    rw [List.flatMap_cons, List.length_append, List.length_cons, Nat.succ_mul]
    have := h x (List.mem_cons_self ..)
    have := ih fun y hy => h y (List.mem_cons_of_mem _ hy)
    omega
theorem ways_len (h : ∀ k, (rd W k).r ≤ 2) : ∀ i, (waysW W i).length ≤ 3 ^ i
  | 0 => by simp [waysW]
  | i + 1 => by
    have := ways_len h i
    rw [waysW, Nat.pow_succ]
    refine Nat.le_trans (flatMap_le (c := 3) fun s hs => ?_) (Nat.mul_le_mul_right 3 this)
    have := h i
    simp
    omega
theorem rd_le (h : ∀ x ∈ W.roads, x.r ≤ 2) (k : Nat) : (rd W k).r ≤ 2 := by
  by_cases c : k < W.roads.length
  · rw [rd_eq c]; exact h _ (List.getElem_mem c)
  · simp [rd, c]
def streamsL (W : Web) : List (List Int) := (waysW W W.roads.length).filter (evenB W)
theorem take_flat {α β : Type} {l : List α} {g : α → List β} {i : Nat} (h : i < l.length) : (l.take (i + 1)).flatMap g = (l.take i).flatMap g ++ g l[i] := by
  rw [List.take_succ, List.getElem?_eq_getElem h, List.flatMap_append]
  simp
theorem e_streams (hw : IsWeb W) (h6 : W.roads.length ≤ 6) (h2 : ∀ x ∈ W.roads, x.r ≤ 2) : F__law_streams_d [webD W] = some (.list ((streamsL W).map intsD)) := by
  have l2 := ways_len (rd_le h2)
  have l3 : ∀ i ≤ 6, 3 ^ i ≤ 3 ^ 6 := fun i hi => Nat.pow_le_pow_right (by omega) hi
  refine eq_of_wp ?_
  unfold F__law_streams_d
  refine wp_runP rfl ?_
  unfold X__law_streams_d
  have hh := hw.houses
  simp -implicitDefEqProofs
  refine wp_forM (fun k ρ => ∃ (ds : List PD) (z2 z3 z4 z5 z6 z7 : Sl), ρ = [.dat (webD W), .dat (.list ds), z2, z3, z4, z5, z6, z7] ∧ ds = (waysW W k).map intsD) ⟨_, _, _, _, _, _, _, rfl, rfl⟩ ?_ ?_
  · rintro k hk ρ ⟨ds, z2, z3, z4, z5, z6, z7, rfl, rfl⟩
    have ok := hw.rd hk
    unfold X__law_streams_d_b2
    simp -implicitDefEqProofs [← rd_eq hk]
    refine wp_forM (fun i ρ => ∃ (ds : List PD) (z6 z7 : Sl), ρ = [.dat (webD W), .dat (.list ((waysW W k).map intsD)), .dat (endD (rd W k).b), .dat (endD (rd W k).e), .dat (.int (rd W k).r), .own (dats ds), z6, z7] ∧ ds = (((waysW W k).take i).flatMap fun s => (List.range ((rd W k).r + 1).toNat).map fun (x : Nat) => s ++ [(x : Int)]).map intsD) ⟨[], _, _, rfl, rfl⟩ ?_ ?_
    · rintro i hi ρ ⟨ds, z6, z7, rfl, rfl⟩
      have rr := rd_le h2 k
      have ln := (mem_ways.mp (List.getElem_mem hi)).1
      have r0 := ok.2.2.2.1
      unfold X__law_streams_d_b1
      simp -implicitDefEqProofs
      refine ⟨⟨by omega, by omega⟩, by omega, wp_lcT (fun (x : Nat) => intsD ((waysW W k)[i] ++ [(x : Int)])) (fun x hx => ?_) ?_⟩
      · unfold intsD
        simp -implicitDefEqProofs
        omega
      · have fl : (((waysW W k).take i).flatMap fun s => (List.range ((rd W k).r + 1).toNat).map fun (x : Nat) => s ++ [(x : Int)]).length ≤ 3 ^ k * 3 := by
          refine Nat.le_trans (flatMap_le (c := 3) fun s hs => ?_) (Nat.mul_le_mul_right 3 ?_)
          · simp; omega
          · rw [List.length_take]; have := l2 k; omega
        have := l3 k (by omega)
        simp -implicitDefEqProofs [-List.length_flatMap]
        refine ⟨by omega, ⟨_, _, _, rfl, ?_⟩⟩
        rw [take_flat hi, List.map_append, List.map_map]
        rfl
    · rintro ρ ⟨ds, z6, z7, rfl, rfl⟩
      rw [List.take_length]
      simp -implicitDefEqProofs
      refine ⟨_, _, _, _, _, _, _, rfl, ?_⟩
      rw [waysW]
  · rintro ρ ⟨ds, z2, z3, z4, z5, z6, z7, rfl, rfl⟩
    have := l2 W.roads.length
    have := l3 W.roads.length h6
    simp -implicitDefEqProofs
    refine ⟨by omega, wp_lc (evenB W) intsD (fun s hs => ?_) ?_⟩
    · have := (mem_ways.mp hs).1
      simp -implicitDefEqProofs [e_even hw this]
    · simp -implicitDefEqProofs
      rfl
end
end Fn

namespace Fn
open PySem PySem.Spec PyProof.Rows L2 Uv
section
variable {W : Web} {f : List Int} {lot : List Nat}
def pairD (p : List Int × List Nat) : PD := .tuple [intsD p.1, natsD p.2]
def bothL (W : Web) : List (List Int × List Nat) := (streamsL W).flatMap fun s => ((lots W.gives.length).filter (calmB W s)).map fun l => (s, l)
theorem e_both (hw : IsWeb W) (h6 : W.roads.length ≤ 6) (h2 : ∀ x ∈ W.roads, x.r ≤ 2) (h3 : W.gives.length ≤ 3) : F__law_both_c [webD W] = some (.list ((bothL W).map pairD)) ∧ (bothL W).length ≤ 6000 := by
  have sl : (streamsL W).length ≤ 729 := by
    have h1 := ways_len (rd_le h2) W.roads.length
    have h2 : 3 ^ W.roads.length ≤ 3 ^ 6 := Nat.pow_le_pow_right (by omega) h6
    exact Nat.le_trans (List.length_filter_le ..) (Nat.le_trans h1 h2)
  have ll : (lots W.gives.length).length ≤ 8 := by
    rw [lots_len]
    exact Nat.pow_le_pow_right (n := 2) (i := W.gives.length) (j := 3) (by omega) h3
  have part : ∀ s, (((lots W.gives.length).filter (calmB W s)).map fun l => (s, l)).length ≤ 8 := fun s => by
    rw [List.length_map]
    exact Nat.le_trans (List.length_filter_le ..) ll
  refine ⟨eq_of_wp ?_, ?_⟩
  · unfold F__law_both_c
    refine wp_runP rfl ?_
    unfold X__law_both_c
    simp -implicitDefEqProofs [e_streams hw h6 h2]
    refine wp_forM (fun i ρ => ∃ (ds : List PD) (z2 z3 : Sl), ρ = [.dat (webD W), .own (dats ds), z2, z3] ∧ ds = (((streamsL W).take i).flatMap fun s => ((lots W.gives.length).filter (calmB W s)).map fun l => (s, l)).map pairD) ⟨[], _, _, rfl, rfl⟩ ?_ ?_
    · rintro i hi ρ ⟨ds, z2, z3, rfl, rfl⟩
      unfold X__law_both_c_b1
      have ln := (mem_ways.mp (List.mem_filter.mp (List.getElem_mem hi)).1).1
      simp -implicitDefEqProofs [e_sets hw]
      refine ⟨by omega, wp_lc (calmB W (streamsL W)[i]) (fun l => pairD ((streamsL W)[i], l)) (fun l hl => ?_) ?_⟩
      · simp -implicitDefEqProofs [e_calms hw ln]
        exact fun _ => rfl
      · have fl : (((streamsL W).take i).flatMap fun s => ((lots W.gives.length).filter (calmB W s)).map fun l => (s, l)).length ≤ 729 * 8 := by
          refine Nat.le_trans (flatMap_le (c := 8) fun s hs => part s) (Nat.mul_le_mul_right 8 ?_)
          rw [List.length_take]; omega
        have := Nat.le_trans (List.length_filter_le (calmB W (streamsL W)[i]) (lots W.gives.length)) ll
        simp -implicitDefEqProofs [-List.length_flatMap]
        refine ⟨by omega, ⟨_, _, _, rfl, ?_⟩⟩
        rw [take_flat hi, List.map_append, List.map_map]
        rfl
    · rintro ρ ⟨ds, z2, z3, rfl, rfl⟩
      rw [List.take_length]
      simp -implicitDefEqProofs
      rfl
  · exact Nat.le_trans (flatMap_le (c := 8) fun s hs => part s) (Nat.le_trans (Nat.mul_le_mul_right 8 sl) (by omega))
/-- there is one -/
def netOf (W : Web) : Calm.Net := ⟨W.roads.length, W.gives.length, fun k => (rd W k).b, fun k => (rd W k).e, fun k => (rd W k).r, giv W, tak W⟩
theorem giv_out {h : Nat} (hh : ¬ h < W.gives.length) : giv W h = [] := by simp [giv, hh]
theorem tak_out (hw : IsWeb W) {h : Nat} (hh : ¬ h < W.gives.length) : tak W h = [] := by have := hw.same; simp [tak, this, hh]
theorem net_ok (hw : IsWeb W) : (netOf W).Ok := by
  refine ⟨fun k hk => (hw.rd hk).1, fun k => ?_, fun h k => ?_, fun h k => ?_, fun h => ?_, fun h => ?_, fun k h hk e => (hw.rd hk).2.1 h e, fun k h hk e => (hw.rd hk).2.2.1 h e⟩
  · show 0 ≤ (rd W k).r
    by_cases c : k < W.roads.length
    · exact (hw.rd c).2.2.2.1
    · simp [rd, c]
  · by_cases c : h < W.gives.length
    · exact hw.mem_giv c
    · show k ∈ giv W h ↔ _
      rw [giv_out c]
      constructor
      · intro z; exact nomatch z
      · rintro ⟨hk, e⟩; exact absurd ((hw.rd hk).2.1 h e) c
  · by_cases c : h < W.gives.length
    · exact hw.mem_tak c
    · show k ∈ tak W h ↔ _
      rw [tak_out hw c]
      constructor
      · intro z; exact nomatch z
      · rintro ⟨hk, e⟩; exact absurd ((hw.rd hk).2.2.1 h e) c
  · by_cases c : h < W.gives.length
    · exact hw.nd_giv c
    · show (giv W h).Nodup
      rw [giv_out c]
      exact .nil
  · by_cases c : h < W.gives.length
    · exact hw.nd_tak c
    · show (tak W h).Nodup
      rw [tak_out hw c]
      exact .nil
open Classical in
theorem calm_some (hw : IsWeb W) : ∃ s ∈ streamsL W, ∃ l ∈ lots W.gives.length, calmB W s l = true := by
  obtain ⟨g, L, r⟩ := Calm.exists_calm (net_ok hw)
  have ga : ∀ k, at0 ((List.range W.roads.length).map g) k = if k < W.roads.length then g k else 0 := fun k => by
    by_cases c : k < W.roads.length
    · rw [if_pos c, at0_eq (by simpa using c)]; simp
    · rw [if_neg c]; simp [at0, c]
  have gk : ∀ {k}, k < W.roads.length → at0 ((List.range W.roads.length).map g) k = g k := fun c => by rw [ga, if_pos c]
  refine ⟨(List.range W.roads.length).map g, List.mem_filter.mpr ⟨mem_ways.mpr ⟨by simp, fun j hj => ?_⟩, ?_⟩, (List.range W.gives.length).filter fun h => decide (L h), mem_lots.mpr ⟨List.Pairwise.filter _ List.pairwise_lt_range, fun x hx => List.mem_range.mp (List.mem_filter.mp hx).1⟩, ?_⟩
  · rw [gk hj]
    exact ⟨r.lo j, r.hi j⟩
  · unfold evenB
    rw [List.all_eq_true]
    intro h hh
    have hh := List.mem_range.mp hh
    rw [decide_eq_true_iff]
    have e1 : (giv W h).map (at0 ((List.range W.roads.length).map g)) = (giv W h).map g := List.map_congr_left fun j hj => gk ((hw.mem_giv hh).mp hj).1
    have e2 : (tak W h).map (at0 ((List.range W.roads.length).map g)) = (tak W h).map g := List.map_congr_left fun j hj => gk ((hw.mem_tak hh).mp hj).1
    rw [e1, e2]
    exact r.even h
  · refine calm_iff.mpr fun k hk h1 h2 => ?_
    have h1 : g k < (rd W k).r := by
      have := of_decide_eq_true h1
      rwa [gk hk] at this
    have inL : ∀ h, h ∈ ((List.range W.gives.length).filter fun h => decide (L h)) ↔ h < W.gives.length ∧ L h := fun h => by
      rw [List.mem_filter, List.mem_range, decide_eq_true_iff]
    obtain ⟨h, e, lh, z⟩ := r.calm k hk h1 fun h hb => by
      have hb : (rd W k).b = some h := hb
      have hh := (hw.rd hk).2.1 h hb
      unfold pushB at h2
      rw [hb] at h2
      rw [Bool.or_eq_true, List.contains_iff_mem, inL] at h2
      rcases h2 with h2 | h2
      · exact .inl h2.2
      · obtain ⟨j, hj, a, b⟩ := (lessB_iff (hw.nd_giv hh)).mp h2
        rw [gk ((hw.mem_giv hh).mp hj).1] at b
        exact .inr ⟨j, hj, a, b⟩
    have e : (rd W k).e = some h := e
    have hh := (hw.rd hk).2.2.1 h e
    refine pull_false.mpr ⟨h, e, (inL h).mpr ⟨hh, lh⟩, ?_⟩
    cases hx : lessB ((List.range W.roads.length).map g) (tak W h) k with
    | false => rfl
    | true =>
      obtain ⟨j, hj, a, b⟩ := (lessB_iff (hw.nd_tak hh)).mp hx
      rw [gk ((hw.mem_tak hh).mp hj).1, z j hj a] at b
      exact absurd b (by omega)
theorem both_ne (hw : IsWeb W) : bothL W ≠ [] := by
  obtain ⟨s, hs, l, hl, hc⟩ := calm_some hw
  intro z
  have : (s, l) ∈ bothL W := List.mem_flatMap.mpr ⟨s, hs, List.mem_map.mpr ⟨l, List.mem_filter.mpr ⟨hl, hc⟩, rfl⟩⟩
  rw [z] at this
  exact nomatch this
theorem streams_ne (hw : IsWeb W) : streamsL W ≠ [] := by
  obtain ⟨s, hs, _⟩ := calm_some hw
  exact fun z => by rw [z] at hs; exact nomatch hs
theorem stream_bears {s : List Int} (h : s ∈ streamsL W) : Bears W s := by
  obtain ⟨h1, h2⟩ := mem_ways.mp (List.mem_filter.mp h).1
  refine ⟨h1, fun x hx => ?_⟩
  obtain ⟨i, hi, rfl⟩ := List.mem_iff_getElem.mp hx
  rw [← at0_eq hi]
  exact (h2 i (by omega)).1
theorem both_bears {p : List Int × List Nat} (h : p ∈ bothL W) : Bears W p.1 := by
  obtain ⟨s, hs, hp⟩ := List.mem_flatMap.mp h
  obtain ⟨l, _, rfl⟩ := List.mem_map.mp hp
  exact stream_bears hs
/-! all times a number -/
def timesW (k : Int) (W : Web) : Web := ⟨W.roads.map fun x => ⟨x.b, x.e, x.r * k⟩, W.gives, W.takes⟩
theorem atR_times {rs : List Road} {k : Int} {s h : Nat} : atR (rs.map fun x => ⟨x.b, x.e, x.r * k⟩) s h = atR rs s h := by
  unfold atR
  rw [List.zipIdx_map, List.filter_map, List.map_map]
  rfl
theorem times_ok (hw : IsWeb W) (h2 : ∀ x ∈ W.roads, x.r ≤ 2) {k : Int} (k0 : 0 ≤ k) (k1 : k ≤ 500000000000) : IsWeb (timesW k W) := by
  refine ⟨hw.houses, hw.same, by simpa [timesW] using hw.count, fun x hx => ?_, fun h l e => ?_, fun h l e => ?_⟩
  · obtain ⟨y, hy, rfl⟩ := List.mem_map.mp hx
    obtain ⟨a, b, c, d, e⟩ := hw.road y hy
    refine ⟨a, b, c, Int.mul_nonneg d k0, ?_⟩
    show y.r * k ≤ 1000000000000
    have := h2 y hy
    have : y.r * k ≤ 2 * k := Int.mul_le_mul_of_nonneg_right this k0
    omega
  · show l.Perm (atR (W.roads.map fun x => ⟨x.b, x.e, x.r * k⟩) 0 h)
    rw [atR_times]
    exact hw.give h l e
  · show l.Perm (atR (W.roads.map fun x => ⟨x.b, x.e, x.r * k⟩) 1 h)
    rw [atR_times]
    exact hw.take h l e
theorem times_bears {s : List Int} (hs : Bears W s) {k : Int} (k0 : 0 ≤ k) : Bears (timesW k W) (s.map (· * k)) := by
  refine ⟨by simpa [timesW] using hs.len, fun x hx => ?_⟩
  obtain ⟨y, hy, rfl⟩ := List.mem_map.mp hx
  exact Int.mul_nonneg (hs.nn y hy) k0
theorem times_eq {k : Int} : PyData.tuple [.tuple (W.roads.map fun x => roadD ⟨x.b, x.e, x.r * k⟩), .tuple (W.gives.map natsD), .tuple (W.takes.map natsD)] = webD (timesW k W) := by
  unfold webD timesW
  rw [List.map_map]
  rfl
theorem e_far {b : Nat} {cs : List Cel} {ps : List (List Int × List Nat)} {Q : PD × List Cel → Prop} (h : DkE b cs) (hb : b + 2 ≤ 2 ^ 40) (hw : IsWeb W) (h2 : ∀ x ∈ W.roads, x.r ≤ 2) (hp : ps.length ≤ 1000) (hs : ∀ p ∈ ps, Bears W p.1) (hq : ∀ (k : Int) cs', 1 ≤ k → IsWeb (timesW k W) → (∀ p ∈ ps, Bears (timesW k W) (p.1.map (· * k))) → DkE (b + 2) cs' → Q (.tuple [webD (timesW k W), .list (ps.map fun p => pairD (p.1.map (· * k), p.2))], cs')) : wp (F__law_far_c cs [webD W, .list (ps.map pairD)]) (tag Q) := by
  have hc := hw.count
  unfold F__law_far_c
  refine wp_runW rfl ?_
  unfold X__law_far_c
  simp -implicitDefEqProofs
  refine e_next h (by omega) (by omega) (by omega) fun r1 cs1 a1 d1 => ?_
  simp -implicitDefEqProofs
  refine e_next d1 (by omega) (by omega) (by omega) fun r2 cs2 a2 d2 => ?_
  simp -implicitDefEqProofs
  refine wp_pick (by simp; omega) fun x hx => ?_
  obtain ⟨k, rfl, k1', k1⟩ : ∃ k : Int, x = .int k ∧ 1 ≤ k ∧ k ≤ 100000000000 := by
    simp at hx
    rcases hx with rfl | rfl <;> exact ⟨_, rfl, by omega, by omega⟩
  have k0 : 0 ≤ k := by omega
  have i64 : In64 k := ⟨by omega, by omega⟩
  simp -implicitDefEqProofs
  refine ⟨by omega, wp_lcT (fun x => roadD ⟨x.b, x.e, x.r * k⟩) (fun x hx => ?_) ?_⟩
  · simp -implicitDefEqProofs [i64]
    rfl
  simp -implicitDefEqProofs
  refine ⟨hp |> fun h => Nat.le_trans h (by omega), wp_lcT (fun p => pairD (p.1.map (· * k), p.2)) (fun p hp => ?_) ?_⟩
  · unfold pairD
    simp -implicitDefEqProofs
    have := (hs p hp).len
    refine ⟨by omega, wp_lcT (fun i => .int (i * k)) (fun i hi => ?_) ?_⟩
    · simp -implicitDefEqProofs [i64]
    simp -implicitDefEqProofs
    unfold intsD
    rw [List.map_map]
    rfl
  simp -implicitDefEqProofs
  rw [times_eq]
  exact hq k cs2 k1' (times_ok hw h2 k0 (by omega)) (fun p hp => times_bears (hs p hp) k0) d2
end
end Fn

/-! two calm streams with their lots: at each house one of both is better, and what is better for the one is worse for the other one -/
namespace Calm
theorem sm_add {l : List Nat} {g g' : Nat → Int} : sm l (fun k => g k + g' k) = sm l g + sm l g' := by
  induction l with
  | nil => rfl
  | cons x xs ih => rw [sm_cons, sm_cons, sm_cons, ih]; omega
theorem sm_sub {l : List Nat} {g g' : Nat → Int} : sm l (fun k => g k - g' k) = sm l g - sm l g' := by
  induction l with
  | nil => rfl
  | cons x xs ih => rw [sm_cons, sm_cons, sm_cons, ih]; omega
theorem sm_nul {l : List Nat} {g : Nat → Int} (h : ∀ k ∈ l, g k = 0) : sm l g = 0 := by
  induction l with
  | nil => rfl
  | cons x xs ih =>
    rw [sm_cons, h x (List.mem_cons_self ..), ih fun k hk => h k (List.mem_cons_of_mem _ hk)]; rfl
theorem sm_perm {l m : List Nat} {g : Nat → Int} (p : l.Perm m) : sm l g = sm m g := by
  induction p with
  | nil => rfl
  | cons x _ ih => rw [sm_cons, sm_cons, ih]
  | swap x y l => rw [sm_cons, sm_cons, sm_cons, sm_cons]; omega
  | trans _ _ h1 h2 => rw [h1, h2]
theorem sm_swap {l m : List Nat} {G : Nat → Nat → Int} : sm l (fun h => sm m fun k => G h k) = sm m fun k => sm l fun h => G h k := by
  induction l with
  | nil => exact (sm_nul fun _ _ => rfl).symm
  | cons x xs ih => rw [sm_cons, ih, ← sm_add]; rfl
theorem sm_single {l : List Nat} {g : Nat → Int} {a : Nat} (nd : l.Nodup) (ha : a ∈ l) (h : ∀ k ∈ l, k ≠ a → g k = 0) : sm l g = g a := by
  induction l with
  | nil => exact nomatch ha
  | cons x xs ih =>
    obtain ⟨n1, n2⟩ := List.nodup_cons.mp nd
    rw [sm_cons]
    by_cases e : x = a
    · subst e
      rw [sm_nul fun k hk => h k (List.mem_cons_of_mem _ hk) fun z => n1 (z ▸ hk)]
      omega
    · rw [h x (List.mem_cons_self ..) e, ih n2 ((List.mem_cons.mp ha).resolve_left fun z => e z.symm) fun k hk => h k (List.mem_cons_of_mem _ hk)]
      omega
theorem sm_filter {l : List Nat} {p : Nat → Bool} {g : Nat → Int} : sm (l.filter p) g = sm l fun k => if p k = true then g k else 0 := by
  induction l with
  | nil => rfl
  | cons x xs ih =>
    rw [List.filter_cons, sm_cons]
    by_cases c : p x = true
    · rw [if_pos c, if_pos c, sm_cons, ih]
    · rw [if_neg c, if_neg c, ih]; omega
variable {N : Net}
open Classical in
/-- a sum over the roads of one side, house by house -/
theorem sides {n hs : Nat} {b : Nat → Option Nat} {l : Nat → List Nat} (lm : ∀ h k, k ∈ l h ↔ k < n ∧ b k = some h) (ln : ∀ h, (l h).Nodup) (bh : ∀ k h, k < n → b k = some h → h < hs) (P : Nat → Prop) (Q : Nat → Prop) (hQ : ∀ k, Q k ↔ ∃ h, b k = some h ∧ P h) (F : Nat → Int) :
    sm (List.range n) (fun k => if Q k then F k else 0) = sm (List.range hs) (fun h => if P h then sm (l h) F else 0) := by
  have e1 : ∀ h, sm (l h) F = sm (List.range n) (fun k => if b k = some h then F k else 0) := fun h => by
    have p : (l h).Perm ((List.range n).filter fun k => decide (b k = some h)) := (List.perm_ext_iff_of_nodup (ln h) (List.nodup_range.filter _)).mpr fun k => by
      rw [lm, List.mem_filter, List.mem_range, decide_eq_true_iff]
    rw [sm_perm p, sm_filter]
    exact sm_same fun k _ => by simp
  have e2 : sm (List.range hs) (fun h => if P h then sm (l h) F else 0) = sm (List.range hs) (fun h => sm (List.range n) fun k => if P h ∧ b k = some h then F k else 0) := sm_same fun h _ => by
    by_cases c : P h
    · rw [if_pos c, e1]
      exact sm_same fun k _ => by simp [c]
    · rw [if_neg c]
      exact (sm_nul fun k _ => by simp [c]).symm
  rw [e2, sm_swap]
  apply sm_same
  intro k hk
  have hk := List.mem_range.mp hk
  cases hb : b k with
  | none =>
    rw [if_neg (by rw [hQ]; rintro ⟨h, e, _⟩; rw [hb] at e; exact nomatch e)]
    exact (sm_nul fun h _ => by simp).symm
  | some h0 =>
    rw [sm_single List.nodup_range (List.mem_range.mpr (bh k h0 hk hb)) (fun h _ hne => if_neg fun z => hne (Option.some.inj z.2).symm)]
    by_cases c : P h0
    · rw [if_pos ((hQ k).mpr ⟨h0, hb, c⟩), if_pos ⟨c, rfl⟩]
    · rw [if_neg (by rw [hQ]; rintro ⟨h, e, ph⟩; rw [hb] at e; exact c (Option.some.inj e ▸ ph)), if_neg fun z => c z.1]
def thr (N : Net) (f : Nat → Int) (h : Nat) : Int := sm (N.g h) f
/-- the second one is better at the house's giving side -/
def Up (N : Net) (f : Nat → Int) (S : Nat → Prop) (g : Nat → Int) (T : Nat → Prop) (h : Nat) : Prop :=
  (∃ k ∈ N.g h, g k < f k ∧ ¬ T h ∧ ∀ j ∈ N.g h, (N.g h).idxOf k < (N.g h).idxOf j → g j = 0) ∨ (S h ∧ (¬ T h ∨ thr N f h < thr N g h))
/-- the second one is better at the house's taking side -/
def Vp (N : Net) (f : Nat → Int) (S : Nat → Prop) (g : Nat → Int) (T : Nat → Prop) (h : Nat) : Prop :=
  (∃ k ∈ N.t h, g k < f k ∧ T h ∧ ∀ j ∈ N.t h, (N.t h).idxOf k < (N.t h).idxOf j → g j = 0) ∨ (¬ S h ∧ (T h ∨ thr N f h < thr N g h))
def UU (N : Net) (f : Nat → Int) (S : Nat → Prop) (g : Nat → Int) (T : Nat → Prop) (k : Nat) : Prop := ∃ h, N.b k = some h ∧ Up N f S g T h
def VV (N : Net) (f : Nat → Int) (S : Nat → Prop) (g : Nat → Int) (T : Nat → Prop) (k : Nat) : Prop := ∃ h, N.e k = some h ∧ Vp N f S g T h
section
variable {f g : Nat → Int} {S T : Nat → Prop}
theorem idx_inj {l : List Nat} {a b : Nat} (ha : a ∈ l) (h : l.idxOf a = l.idxOf b) : a = b := by
  have h1 := List.idxOf_lt_length_iff.mpr ha
  have e1 := List.getElem_idxOf h1
  have h2 : l.idxOf b < l.length := h ▸ h1
  have e2 := List.getElem_idxOf h2
  rw [← e1, ← e2]
  simp only [h]
theorem both_ex {l : List Nat} {k j : Nat} (hk : k ∈ l) (hj : j ∈ l) (f0 : ∀ k, 0 ≤ f k) (g0 : ∀ k, 0 ≤ g k) (h1 : g k < f k) (h2 : f j < g j) (z1 : ∀ j ∈ l, l.idxOf k < l.idxOf j → g j = 0) (z2 : ∀ k ∈ l, l.idxOf j < l.idxOf k → f k = 0) : False := by
  rcases Nat.lt_trichotomy (l.idxOf k) (l.idxOf j) with c | c | c
  · have := z1 j hj c; have := f0 j; omega
  · have := idx_inj hk c; subst this; omega
  · have := z2 k hk c; have := g0 k; omega
theorem ex_U (rf : Rests N f S) (rg : Rests N g T) {h : Nat} (a : Up N f S g T h) (b : Up N g T f S h) : False := by
  rcases a with ⟨k, hk, h1, nT, z1⟩ | ⟨s, h1⟩ <;> rcases b with ⟨j, hj, h2, nS, z2⟩ | ⟨t, h2⟩
  · exact both_ex hk hj rf.lo rg.lo h1 h2 z1 z2
  · exact nT t
  · exact nS s
  · rcases h1 with h1 | h1
    · exact h1 t
    · rcases h2 with h2 | h2
      · exact h2 s
      · omega
theorem ex_V (rf : Rests N f S) (rg : Rests N g T) {h : Nat} (a : Vp N f S g T h) (b : Vp N g T f S h) : False := by
  rcases a with ⟨k, hk, h1, tT, z1⟩ | ⟨s, h1⟩ <;> rcases b with ⟨j, hj, h2, sS, z2⟩ | ⟨t, h2⟩
  · exact both_ex hk hj rf.lo rg.lo h1 h2 z1 z2
  · exact t tT
  · exact s sS
  · rcases h1 with h1 | h1
    · exact t h1
    · rcases h2 with h2 | h2
      · exact s h2
      · omega
theorem ex_UU (rf : Rests N f S) (rg : Rests N g T) {k : Nat} (a : UU N f S g T k) (b : UU N g T f S k) : False := by
  obtain ⟨h, e, a⟩ := a
  obtain ⟨h', e', b⟩ := b
  rw [e] at e'
  have := Option.some.inj e'
  subst this
  exact ex_U rf rg a b
theorem ex_VV (rf : Rests N f S) (rg : Rests N g T) {k : Nat} (a : VV N f S g T k) (b : VV N g T f S k) : False := by
  obtain ⟨h, e, a⟩ := a
  obtain ⟨h', e', b⟩ := b
  rw [e] at e'
  have := Option.some.inj e'
  subst this
  exact ex_V rf rg a b
/-- where the first bears more on a road, one of its houses tells why the second one bears no more -/
theorem why (ok : N.Ok) (rf : Rests N f S) (rg : Rests N g T) {k : Nat} (kn : k < N.n) (h : g k < f k) :
    (∃ h, N.b k = some h ∧ ¬ T h ∧ ∀ j ∈ N.g h, (N.g h).idxOf k < (N.g h).idxOf j → g j = 0) ∨ (∃ h, N.e k = some h ∧ T h ∧ ∀ j ∈ N.t h, (N.t h).idxOf k < (N.t h).idxOf j → g j = 0) := by
  by_cases c : ∀ h, N.b k = some h → T h ∨ ∃ j ∈ N.g h, (N.g h).idxOf k < (N.g h).idxOf j ∧ 0 < g j
  · exact .inr (rg.calm k kn (by have := rf.hi k; omega) c)
  · left
    apply Classical.byContradiction
    intro z
    apply c
    intro h hb
    apply Classical.byContradiction
    intro z'
    refine z ⟨h, hb, fun t => z' (.inl t), fun j hj hij => ?_⟩
    have := rg.lo j
    apply Classical.byContradiction
    intro z''
    exact z' (.inr ⟨j, hj, hij, by omega⟩)
theorem expl (ok : N.Ok) (rf : Rests N f S) (rg : Rests N g T) {k : Nat} (kn : k < N.n) (h : g k < f k) : UU N f S g T k ∨ VV N f S g T k := by
  rcases why ok rf rg kn h with ⟨h', e, t, z⟩ | ⟨h', e, t, z⟩
  · exact .inl ⟨h', e, .inl ⟨k, (ok.gm h' k).mpr ⟨kn, e⟩, h, t, z⟩⟩
  · exact .inr ⟨h', e, .inl ⟨k, (ok.tm h' k).mpr ⟨kn, e⟩, h, t, z⟩⟩
open Classical in
theorem half (ok : N.Ok) (rf : Rests N f S) (rg : Rests N g T) :
    (∀ k, k < N.n → f k ≠ g k → (UU N f S g T k ↔ VV N g T f S k)) ∧ (∀ h, h < N.hs → thr N f h ≠ thr N g h → (Up N f S g T h ↔ Vp N g T f S h)) := by
  have s1 := sides ok.gm ok.gn ok.bh (Up N f S g T) (UU N f S g T) (fun _ => Iff.rfl) (fun k => f k - g k)
  have s2 := sides ok.tm ok.tn ok.eh (Vp N g T f S) (VV N g T f S) (fun _ => Iff.rfl) (fun k => f k - g k)
  have a1 : ∀ h, sm (N.g h) (fun k => f k - g k) = thr N f h - thr N g h := fun h => sm_sub
  have a2 : ∀ h, sm (N.t h) (fun k => f k - g k) = thr N f h - thr N g h := fun h => by
    rw [sm_sub, ← rf.even, ← rg.even]; rfl
  simp only [a1] at s1
  simp only [a2] at s2
  -- the parts
  have p1 : ∀ k ∈ List.range N.n, 0 ≤ (if UU N f S g T k then f k - g k else 0) - (if VV N g T f S k then f k - g k else 0) := fun k hk => by
    have hk := List.mem_range.mp hk
    by_cases cu : UU N f S g T k <;> by_cases cv : VV N g T f S k
    · rw [if_pos cu, if_pos cv]; omega
    · rw [if_pos cu, if_neg cv]
      apply Classical.byContradiction
      intro z
      rcases expl ok rg rf hk (by omega) with y | y
      · exact ex_UU rf rg cu y
      · exact cv y
    · rw [if_neg cu, if_pos cv]
      apply Classical.byContradiction
      intro z
      rcases expl ok rf rg hk (by omega) with y | y
      · exact cu y
      · exact ex_VV rf rg y cv
    · rw [if_neg cu, if_neg cv]; omega
  have p2 : ∀ h ∈ List.range N.hs, 0 ≤ (if Vp N g T f S h then thr N f h - thr N g h else 0) - (if Up N f S g T h then thr N f h - thr N g h else 0) := fun h _ => by
    by_cases cu : Up N f S g T h <;> by_cases cv : Vp N g T f S h
    · rw [if_pos cu, if_pos cv]; omega
    · rw [if_neg cv, if_pos cu]
      apply Classical.byContradiction
      intro z
      by_cases s : S h <;> by_cases t : T h
      · exact ex_U rf rg cu (.inr ⟨t, .inr (by omega)⟩)
      · exact cv (.inr ⟨t, .inl s⟩)
      · exact ex_U rf rg cu (.inr ⟨t, .inl s⟩)
      · exact cv (.inr ⟨t, .inr (by omega)⟩)
    · rw [if_pos cv, if_neg cu]
      apply Classical.byContradiction
      intro z
      by_cases s : S h <;> by_cases t : T h
      · exact cu (.inr ⟨s, .inr (by omega)⟩)
      · exact cu (.inr ⟨s, .inl t⟩)
      · exact ex_V rf rg (.inr ⟨s, .inl t⟩) cv
      · exact ex_V rf rg (.inr ⟨s, .inr (by omega)⟩) cv
    · rw [if_neg cv, if_neg cu]; omega
  have t1 := sm_sub (l := List.range N.n) (g := fun k => if UU N f S g T k then f k - g k else 0) (g' := fun k => if VV N g T f S k then f k - g k else 0)
  have t2 := sm_sub (l := List.range N.hs) (g := fun h => if Vp N g T f S h then thr N f h - thr N g h else 0) (g' := fun h => if Up N f S g T h then thr N f h - thr N g h else 0)
  have n1 := sm_nn p1
  have n2 := sm_nn p2
  have z1 := sm_zero p1 (by omega)
  have z2 := sm_zero p2 (by omega)
  constructor
  · intro k hk hne
    have := z1 k (List.mem_range.mpr hk)
    constructor
    · intro cu
      apply Classical.byContradiction
      intro cv
      rw [if_pos cu, if_neg cv] at this
      omega
    · intro cv
      apply Classical.byContradiction
      intro cu
      rw [if_neg cu, if_pos cv] at this
      omega
  · intro h hh hne
    have := z2 h (List.mem_range.mpr hh)
    constructor
    · intro cu
      apply Classical.byContradiction
      intro cv
      rw [if_pos cu, if_neg cv] at this
      omega
    · intro cv
      apply Classical.byContradiction
      intro cu
      rw [if_neg cu, if_pos cv] at this
      omega
/-- where both bear otherwise, the houses of the road tell which is better, the one for the other one's worse -/
theorem differ (ok : N.Ok) (rf : Rests N f S) (rg : Rests N g T) {k : Nat} (kn : k < N.n) (h : f k ≠ g k) :
    (UU N f S g T k ∧ VV N g T f S k) ∨ (UU N g T f S k ∧ VV N f S g T k) := by
  have h1 := (half ok rf rg).1 k kn h
  have h2 := (half ok rg rf).1 k kn (Ne.symm h)
  have : UU N f S g T k ∨ VV N f S g T k ∨ UU N g T f S k ∨ VV N g T f S k := by
    rcases Int.lt_or_lt_of_ne h with c | c
    · rcases expl ok rg rf kn c with y | y
      · exact .inr (.inr (.inl y))
      · exact .inr (.inr (.inr y))
    · rcases expl ok rf rg kn c with y | y
      · exact .inl y
      · exact .inr (.inl y)
  rcases this with y | y | y | y
  · exact .inl ⟨y, h1.mp y⟩
  · exact .inr ⟨h2.mpr y, y⟩
  · exact .inr ⟨y, h2.mp y⟩
  · exact .inl ⟨h1.mpr y, y⟩
/-- doors bear alike -/
theorem doors_alike (ok : N.Ok) (rf : Rests N f S) (rg : Rests N g T) {k : Nat} (kn : k < N.n) (h : N.b k = none ∨ N.e k = none) : f k = g k := by
  apply Classical.byContradiction
  intro z
  have : (∃ h, N.b k = some h) ∧ ∃ h, N.e k = some h := by
    rcases differ ok rf rg kn z with ⟨⟨a, b, _⟩, ⟨c, d, _⟩⟩ | ⟨⟨a, b, _⟩, ⟨c, d, _⟩⟩
    · exact ⟨⟨a, b⟩, ⟨c, d⟩⟩
    · exact ⟨⟨a, b⟩, ⟨c, d⟩⟩
  obtain ⟨⟨a, b⟩, ⟨c, d⟩⟩ := this
  rcases h with h | h
  · rw [h] at b; exact nomatch b
  · rw [h] at d; exact nomatch d
/-- at a house of both lots the one or the other bears no less on each road that begins there -/
theorem no_less_g (ok : N.Ok) (rf : Rests N f S) (rg : Rests N g T) {h k j : Nat} (s : S h) (t : T h) (hk : k ∈ N.g h) (hj : j ∈ N.g h) (h1 : g k < f k) (h2 : f j < g j) : False := by
  obtain ⟨kn, kb⟩ := (ok.gm h k).mp hk
  obtain ⟨jn, jb⟩ := (ok.gm h j).mp hj
  have a : Up N g T f S h := by
    rcases why ok rf rg kn h1 with ⟨h', e, t', _⟩ | ⟨h', e, t', z⟩
    · rw [kb] at e; exact absurd t (Option.some.inj e ▸ t')
    · have : VV N f S g T k := ⟨h', e, .inl ⟨k, (ok.tm h' k).mpr ⟨kn, e⟩, h1, t', z⟩⟩
      obtain ⟨h'', e', u⟩ := ((half ok rg rf).1 k kn (by omega)).mpr this
      rw [kb] at e'
      exact Option.some.inj e' ▸ u
  have b : Up N f S g T h := by
    rcases why ok rg rf jn h2 with ⟨h', e, t', _⟩ | ⟨h', e, t', z⟩
    · rw [jb] at e; exact absurd s (Option.some.inj e ▸ t')
    · have : VV N g T f S j := ⟨h', e, .inl ⟨j, (ok.tm h' j).mpr ⟨jn, e⟩, h2, t', z⟩⟩
      obtain ⟨h'', e', u⟩ := ((half ok rf rg).1 j jn (by omega)).mpr this
      rw [jb] at e'
      exact Option.some.inj e' ▸ u
  exact ex_U rf rg b a
end
end Calm

namespace Calm
/-! which of two lists comes first -/
def lx : List Int → List Int → Bool
  | [], [] => false
  | [], _ :: _ => true
  | _ :: _, [] => false
  | a :: l, b :: m => if a = b then lx l m else decide (a < b)
theorem lx_irr : ∀ l, lx l l = false
  | [] => rfl
  | a :: l => by rw [lx, if_pos rfl]; exact lx_irr l
theorem lx_asym : ∀ {l m}, lx l m = true → lx m l = false
  | [], [], _ => rfl
  | [], _ :: _, _ => rfl
  | _ :: _, [], h => nomatch h
  | a :: l, b :: m, h => by
    rw [lx] at h ⊢
    by_cases c : a = b
    · subst c
      rw [if_pos rfl] at h ⊢
      exact lx_asym h
    · rw [if_neg c, decide_eq_true_iff] at h
      rw [if_neg fun z => c z.symm, decide_eq_false_iff_not]
      omega
theorem lx_tri : ∀ l m, lx l m = false → lx m l = false → l = m
  | [], [], _, _ => rfl
  | [], _ :: _, h, _ => nomatch h
  | _ :: _, [], _, h => nomatch h
  | a :: l, b :: m, h, h' => by
    rw [lx] at h h'
    by_cases c : a = b
    · subst c
      rw [if_pos rfl] at h h'
      rw [lx_tri l m h h']
    · rw [if_neg c, decide_eq_false_iff_not] at h
      rw [if_neg fun z => c z.symm, decide_eq_false_iff_not] at h'
      omega
theorem lx_trans : ∀ {l m n}, lx l m = true → lx m n = true → lx l n = true
  | [], [], _, h, _ => nomatch h
  | [], _ :: _, [], _, h => nomatch h
  | [], _ :: _, _ :: _, _, _ => rfl
  | _ :: _, [], _, h, _ => nomatch h
  | _ :: _, _ :: _, [], _, h => nomatch h
  | a :: l, b :: m, c :: n, h, h' => by
    rw [lx] at h h' ⊢
    by_cases e : a = b
    · subst e
      rw [if_pos rfl] at h
      by_cases e' : a = c
      · subst e'
        rw [if_pos rfl] at h' ⊢
        exact lx_trans h h'
      · rw [if_neg e'] at h' ⊢
        exact h'
    · rw [if_neg e, decide_eq_true_iff] at h
      by_cases e' : b = c
      · subst e'
        rw [if_neg e, decide_eq_true_iff]
        exact h
      · rw [if_neg e', decide_eq_true_iff] at h'
        rw [if_neg (by omega), decide_eq_true_iff]
        omega
theorem lx_at {f g : Nat → Int} : ∀ {l : List Nat} {k : Nat}, k ∈ l → f k < g k → (∀ j ∈ l, l.idxOf j < l.idxOf k → f j = g j) → lx (l.map f) (l.map g) = true
  | x :: xs, k, hk, h1, h2 => by
    rw [List.map_cons, List.map_cons, lx]
    by_cases e : x = k
    · subst e
      rw [if_neg (by omega), decide_eq_true_iff]
      exact h1
    · have i1 : ∀ j, j ≠ x → (x :: xs).idxOf j = xs.idxOf j + 1 := fun j hj => by
        rw [List.idxOf_cons]
        have : (x == j) = false := by simpa using fun z : x = j => hj z.symm
        simp [this]
      have i0 : (x :: xs).idxOf x = 0 := by simp
      have ek := i1 k fun z => e z.symm
      have ex := h2 x (List.mem_cons_self ..) (by omega)
      rw [if_pos ex]
      refine lx_at ((List.mem_cons.mp hk).resolve_left fun z => e z.symm) h1 fun j hj hl => ?_
      by_cases c : j = x
      · rw [c]; exact ex
      · exact h2 j (List.mem_cons_of_mem _ hj) (by rw [i1 j c, ek]; omega)
variable {N : Net} {f g : Nat → Int} {S T : Nat → Prop}
theorem sm_lt {l : List Nat} (h : ∀ k ∈ l, g k ≤ f k) {j : Nat} (hj : j ∈ l) (hl : g j < f j) : sm l g < sm l f := by
  apply Classical.byContradiction
  intro z
  have := sm_zero (l := l) (g := fun k => f k - g k) (fun k hk => by have := h k hk; omega) (by rw [sm_sub]; omega) j hj
  omega
open Classical in
/-- what a house goes by when it likes one of two pairs -/
noncomputable def key (N : Net) (f : Nat → Int) (S : Nat → Prop) (h : Nat) : List Int := if S h then 0 :: 0 :: (N.g h).map f else 1 :: -(sm (N.t h) f) :: (N.g h).map f
theorem Up.to (h : Nat) {k : Nat} (ok : N.Ok) (hk : k ∈ N.g h) : UU N f S g T k ↔ Up N f S g T h := by
  obtain ⟨_, kb⟩ := (ok.gm h k).mp hk
  constructor
  · rintro ⟨h', e, u⟩
    rw [kb] at e
    exact Option.some.inj e ▸ u
  · exact fun u => ⟨h, kb, u⟩
theorem Vp.to (h : Nat) {k : Nat} (ok : N.Ok) (hk : k ∈ N.t h) : VV N f S g T k ↔ Vp N f S g T h := by
  obtain ⟨_, kb⟩ := (ok.tm h k).mp hk
  constructor
  · rintro ⟨h', e, u⟩
    rw [kb] at e
    exact Option.some.inj e ▸ u
  · exact fun u => ⟨h, kb, u⟩
theorem up_lex (ok : N.Ok) (rf : Rests N f S) (rg : Rests N g T) {h : Nat} (hh : h < N.hs) (u : Up N f S g T h) : lx (key N f S h) (key N g T h) = true := by
  have lst : S h → ¬ T h → lx (key N f S h) (key N g T h) = true := fun s t => by
    unfold key
    rw [if_pos s, if_neg t]
    rfl
  have u0 := u
  have first : ∀ k ∈ N.g h, f k ≠ g k → ∃ j ∈ N.g h, f j ≠ g j ∧ ∀ i ∈ N.g h, (N.g h).idxOf i < (N.g h).idxOf j → f i = g i := fun k hk hne => by
    obtain ⟨j, hj, hp, hl⟩ := least_of (N.g h) (fun j => f j ≠ g j) ⟨k, hk, hne⟩
    exact ⟨j, hj, hp, fun i hi hij => Classical.byContradiction fun z => hl i hi hij z⟩
  rcases u with ⟨k, hk, h1, nT, z1⟩ | ⟨s, h1⟩
  · by_cases s : S h
    · exact lst s nT
    unfold key
    rw [if_neg s, if_neg nT, ← rf.even, ← rg.even, lx, if_pos rfl, lx]
    by_cases c : thr N f h = thr N g h
    · have c' : -sm (N.g h) f = -sm (N.g h) g := by have : sm (N.g h) f = sm (N.g h) g := c; omega
      rw [if_pos c']
      obtain ⟨j, hj, hne, hl⟩ := first k hk (by omega)
      refine lx_at hj ?_ hl
      apply Classical.byContradiction
      intro z
      have gj : g j < f j := by omega
      obtain ⟨jn, jb⟩ := (ok.gm h j).mp hj
      have vv := ((half ok rf rg).1 j jn hne).mp ((Up.to h ok hj).mpr u0)
      have van : ∀ i ∈ N.g h, (N.g h).idxOf j < (N.g h).idxOf i → g i = 0 := by
        rcases why ok rf rg jn gj with ⟨h', e, t, z⟩ | ⟨h', e, t, z⟩
        · rw [jb] at e
          have := Option.some.inj e
          subst this
          exact z
        · exact absurd vv fun vv => ex_VV rf rg ⟨h', e, .inl ⟨j, (ok.tm h' j).mpr ⟨jn, e⟩, gj, t, z⟩⟩ vv
      have := sm_lt (l := N.g h) (f := f) (g := g) (fun i hi => by
        rcases Nat.lt_trichotomy ((N.g h).idxOf i) ((N.g h).idxOf j) with q | q | q
        · have := hl i hi q; omega
        · have := idx_inj hi q; subst this; omega
        · have := van i hi q; have := rf.lo i; omega) hj gj
      have c : sm (N.g h) f = sm (N.g h) g := c
      omega
    · have cc : ¬ sm (N.g h) f = sm (N.g h) g := c
      rw [if_neg (by omega), decide_eq_true_iff]
      apply Classical.byContradiction
      intro z
      have vp := ((half ok rf rg).2 h hh c).mp u0
      exact ex_V rf rg (.inr ⟨s, .inr (by show sm (N.g h) f < sm (N.g h) g; omega)⟩) vp
  · by_cases t : T h
    · have lt : sm (N.g h) f < sm (N.g h) g := h1.resolve_left fun z => z t
      unfold key
      rw [if_pos s, if_pos t, lx, if_pos rfl, lx, if_pos rfl]
      have ex : ∃ k ∈ N.g h, f k ≠ g k := by
        apply Classical.byContradiction
        intro z
        have := sm_same (l := N.g h) (g := f) (g' := g) fun k hk => Classical.byContradiction fun y => z ⟨k, hk, fun e => y e.symm⟩
        omega
      obtain ⟨k, hk, hne⟩ := ex
      obtain ⟨j, hj, hne, hl⟩ := first k hk hne
      refine lx_at hj ?_ hl
      apply Classical.byContradiction
      intro z
      have := sm_le (l := N.g h) (g := g) (g' := f) fun i hi => Classical.byContradiction fun y => no_less_g ok rf rg s t hj hi (by omega) (by omega)
      omega
    · exact lst s t
theorem same_key (ok : N.Ok) (rf : Rests N f S) (rg : Rests N g T) {h : Nat} (n1 : ¬ Up N f S g T h) (n2 : ¬ Up N g T f S h) : (S h ↔ T h) ∧ (∀ k ∈ N.g h, f k = g k) ∧ key N f S h = key N g T h := by
  have e1 : S h ↔ T h := ⟨fun s => Classical.byContradiction fun t => n1 (.inr ⟨s, .inl t⟩), fun t => Classical.byContradiction fun s => n2 (.inr ⟨t, .inl s⟩)⟩
  have e2 : ∀ k ∈ N.g h, f k = g k := fun k hk => Classical.byContradiction fun z => by
    rcases differ ok rf rg ((ok.gm h k).mp hk).1 z with ⟨u, _⟩ | ⟨u, _⟩
    · exact n1 ((Up.to h ok hk).mp u)
    · exact n2 ((Up.to h ok hk).mp u)
  refine ⟨e1, e2, ?_⟩
  have e3 : (N.g h).map f = (N.g h).map g := List.map_congr_left e2
  have e4 : sm (N.t h) f = sm (N.t h) g := by rw [← rf.even, ← rg.even]; exact sm_same fun k hk => e2 k hk
  unfold key
  by_cases s : S h
  · rw [if_pos s, if_pos (e1.mp s), e3]
  · rw [if_neg s, if_neg fun t => s (e1.mpr t), e3, e4]
theorem up_iff (ok : N.Ok) (rf : Rests N f S) (rg : Rests N g T) {h : Nat} (hh : h < N.hs) : lx (key N f S h) (key N g T h) = true ↔ Up N f S g T h := by
  refine ⟨fun l => Classical.byContradiction fun n1 => ?_, up_lex ok rf rg hh⟩
  by_cases n2 : Up N g T f S h
  · have := lx_asym (up_lex ok rg rf hh n2)
    rw [this] at l
    exact nomatch l
  · rw [(same_key ok rf rg n1 n2).2.2, lx_irr] at l
    exact nomatch l
/-! joined and met -/
open Classical in
noncomputable def jn (N : Net) (f : Nat → Int) (S : Nat → Prop) (g : Nat → Int) (T : Nat → Prop) (k : Nat) : Int := if UU N f S g T k then g k else f k
open Classical in
noncomputable def mt (N : Net) (f : Nat → Int) (S : Nat → Prop) (g : Nat → Int) (T : Nat → Prop) (k : Nat) : Int := if UU N f S g T k then f k else g k
theorem jn_mt {k : Nat} : mt N f S g T k = f k + g k - jn N f S g T k := by
  unfold jn mt
  split <;> omega
open Classical in
theorem jn_in (ok : N.Ok) (rf : Rests N f S) (rg : Rests N g T) {h : Nat} (hh : h < N.hs) : sm (N.t h) (jn N f S g T) = if Up N f S g T h then sm (N.t h) g else sm (N.t h) f := by
  have e : sm (N.t h) (jn N f S g T) = if Vp N g T f S h then sm (N.t h) g else sm (N.t h) f := by
    by_cases c : Vp N g T f S h
    · rw [if_pos c]
      refine sm_same fun k hk => ?_
      unfold jn
      by_cases d : f k = g k
      · rw [d, ite_self]
      · rw [if_pos (((half ok rf rg).1 k ((ok.tm h k).mp hk).1 d).mpr ((Vp.to h ok hk).mpr c))]
    · rw [if_neg c]
      refine sm_same fun k hk => ?_
      unfold jn
      by_cases d : f k = g k
      · rw [d, ite_self]
      · rw [if_neg fun u => c ((Vp.to h ok hk).mp (((half ok rf rg).1 k ((ok.tm h k).mp hk).1 d).mp u))]
  rw [e]
  by_cases c : thr N f h = thr N g h
  · have : sm (N.t h) f = sm (N.t h) g := by rw [← rf.even, ← rg.even]; exact c
    rw [this, ite_self, ite_self]
  · have := (half ok rf rg).2 h hh c
    by_cases u : Up N f S g T h
    · rw [if_pos u, if_pos (this.mp u)]
    · rw [if_neg u, if_neg fun v => u (this.mpr v)]
open Classical in
theorem mt_in (ok : N.Ok) (rf : Rests N f S) (rg : Rests N g T) {h : Nat} (hh : h < N.hs) : sm (N.t h) (mt N f S g T) = if Up N f S g T h then sm (N.t h) f else sm (N.t h) g := by
  have e : sm (N.t h) (mt N f S g T) = sm (N.t h) f + sm (N.t h) g - sm (N.t h) (jn N f S g T) := by
    rw [← sm_add, ← sm_sub]
    exact sm_same fun k _ => jn_mt
  rw [e, jn_in ok rf rg hh]
  split <;> omega
theorem up_lots (rf : Rests N f S) (rg : Rests N g T) {h : Nat} : (Up N f S g T h → T h → S h) ∧ (¬ Up N f S g T h → S h → T h) :=
  ⟨fun u t => Classical.byContradiction fun s => ex_U rf rg u (.inr ⟨t, .inl s⟩), fun n s => Classical.byContradiction fun t => n (.inr ⟨s, .inl t⟩)⟩
open Classical in
theorem key_jn (ok : N.Ok) (rf : Rests N f S) (rg : Rests N g T) {h : Nat} (hh : h < N.hs) : key N (jn N f S g T) (fun h => S h ∧ T h) h = if Up N f S g T h then key N g T h else key N f S h := by
  have hin := jn_in ok rf rg hh
  obtain ⟨l1, l2⟩ := up_lots (h := h) rf rg
  by_cases u : Up N f S g T h
  · rw [if_pos u] at hin ⊢
    have e : (N.g h).map (jn N f S g T) = (N.g h).map g := List.map_congr_left fun k hk => if_pos ((Up.to h ok hk).mpr u)
    unfold key
    rw [e, hin]
    by_cases t : T h
    · rw [if_pos ⟨l1 u t, t⟩, if_pos t]
    · rw [if_neg fun z => t z.2, if_neg t]
  · rw [if_neg u] at hin ⊢
    have e : (N.g h).map (jn N f S g T) = (N.g h).map f := List.map_congr_left fun k hk => if_neg fun z => u ((Up.to h ok hk).mp z)
    unfold key
    rw [e, hin]
    by_cases s : S h
    · rw [if_pos ⟨s, l2 u s⟩, if_pos s]
    · rw [if_neg fun z => s z.1, if_neg s]
open Classical in
theorem key_mt (ok : N.Ok) (rf : Rests N f S) (rg : Rests N g T) {h : Nat} (hh : h < N.hs) : key N (mt N f S g T) (fun h => S h ∨ T h) h = if Up N f S g T h then key N f S h else key N g T h := by
  have hin := mt_in ok rf rg hh
  obtain ⟨l1, l2⟩ := up_lots (h := h) rf rg
  by_cases u : Up N f S g T h
  · rw [if_pos u] at hin ⊢
    have e : (N.g h).map (mt N f S g T) = (N.g h).map f := List.map_congr_left fun k hk => if_pos ((Up.to h ok hk).mpr u)
    unfold key
    rw [e, hin]
    by_cases s : S h
    · rw [if_pos (.inl s), if_pos s]
    · rw [if_neg fun z => s (z.elim id (l1 u)), if_neg s]
  · rw [if_neg u] at hin ⊢
    have e : (N.g h).map (mt N f S g T) = (N.g h).map g := List.map_congr_left fun k hk => if_neg fun z => u ((Up.to h ok hk).mp z)
    unfold key
    rw [e, hin]
    by_cases t : T h
    · rw [if_pos (.inr t), if_pos t]
    · rw [if_neg fun z => t (z.elim (l2 u) id), if_neg t]
end Calm

namespace Fn
open PySem PySem.Spec PyProof.Rows L2 Uv
/-! pairs of a web -/
structure Pr (W : Web) (p : List Int × List Nat) : Prop where
  be : Bears W p.1
  hi : ∀ k, at0 p.1 k ≤ (rd W k).r
  ev : evenB W p.1 = true
  ca : calmB W p.1 p.2 = true
  lo : IsLot W.gives.length p.2
section
variable {W : Web} {p q : List Int × List Nat} {h : Nat}
theorem both_pr (hw : IsWeb W) (hp : p ∈ bothL W) : Pr W p := by
  have be := both_bears hp
  obtain ⟨s, hs, hp⟩ := List.mem_flatMap.mp hp
  obtain ⟨l, hl, rfl⟩ := List.mem_map.mp hp
  obtain ⟨l1, l2⟩ := List.mem_filter.mp hl
  obtain ⟨s1, s2⟩ := List.mem_filter.mp hs
  refine ⟨be, fun k => ?_, s2, l2, mem_lots.mp l1⟩
  by_cases c : k < W.roads.length
  · exact ((mem_ways.mp s1).2 k c).2
  · have := be.len
    have e1 : at0 s k = 0 := by simp [at0, this, c]
    have e2 : (rd W k).r = 0 := by simp [rd, c]
    show at0 s k ≤ _
    omega
theorem at0_mul {f : List Int} {m : Int} {k : Nat} : at0 (f.map (· * m)) k = at0 f k * m := by
  unfold at0
  simp only [List.getD_eq_getElem?_getD, List.getElem?_map]
  cases f[k]? <;> simp
theorem rd_times {m : Int} {k : Nat} : rd (timesW m W) k = ⟨(rd W k).b, (rd W k).e, (rd W k).r * m⟩ := by
  unfold rd timesW
  simp only [List.getD_eq_getElem?_getD, List.getElem?_map]
  cases W.roads[k]? <;> simp
theorem lessB_mul {f : List Int} {m : Int} (hm : 1 ≤ m) {o : List Nat} {k : Nat} : lessB (f.map (· * m)) o k = lessB f o k := by
  unfold lessB
  congr 1
  funext j
  rw [at0_mul]
  apply Bool.eq_iff_iff.mpr
  rw [decide_eq_true_iff, decide_eq_true_iff]
  constructor
  · intro h
    apply Classical.byContradiction
    intro z
    have := Int.mul_le_mul_of_nonneg_right (show at0 f j ≤ 0 by omega) (show 0 ≤ m by omega)
    omega
  · exact fun h => Int.mul_pos h (by omega)
theorem sum_mul {f : List Int} {m : Int} {l : List Nat} : (l.map (at0 (f.map (· * m)))).sum = (l.map (at0 f)).sum * m := by
  induction l with
  | nil => simp
  | cons x xs ih => rw [List.map_cons, List.sum_cons, ih, List.map_cons, List.sum_cons, at0_mul, Int.add_mul]
theorem Pr.times {m : Int} (hm : 1 ≤ m) (h : Pr W p) : Pr (timesW m W) (p.1.map (· * m), p.2) := by
  refine ⟨times_bears h.be (by omega), fun k => ?_, ?_, ?_, h.lo⟩
  · show at0 (p.1.map (· * m)) k ≤ _
    rw [at0_mul, rd_times]
    exact Int.mul_le_mul_of_nonneg_right (h.hi k) (by omega)
  · have e := h.ev
    unfold evenB at e ⊢
    rw [List.all_eq_true] at e ⊢
    intro k hk
    have := of_decide_eq_true (e k hk)
    rw [decide_eq_true_iff]
    show ((giv W k).map (at0 (p.1.map (· * m)))).sum = ((tak W k).map (at0 (p.1.map (· * m)))).sum
    rw [sum_mul, sum_mul, this]
  · have e := h.ca
    unfold calmB at e ⊢
    have el : (timesW m W).roads.length = W.roads.length := by simp [timesW]
    rw [el]
    rw [List.all_eq_true] at e ⊢
    intro k hk
    have e := e k hk
    have e1 : openB (timesW m W) (p.1.map (· * m)) k = openB W p.1 k := by
      unfold openB
      rw [at0_mul, rd_times]
      apply Bool.eq_iff_iff.mpr
      rw [decide_eq_true_iff, decide_eq_true_iff]
      exact Int.mul_lt_mul_right (by omega)
    have e2 : pushB (timesW m W) (p.1.map (· * m)) p.2 k = pushB W p.1 p.2 k := by
      unfold pushB
      rw [rd_times]
      show (match (rd W k).b with | none => true | some h => _) = _
      cases (rd W k).b with
      | none => rfl
      | some h => show (_ || lessB (p.1.map (· * m)) (giv W h) k) = _; rw [lessB_mul hm]
    have e3 : pullB (timesW m W) (p.1.map (· * m)) p.2 k = pullB W p.1 p.2 k := by
      unfold pullB
      rw [rd_times]
      show (match (rd W k).e with | none => true | some h => _) = _
      cases (rd W k).e with
      | none => rfl
      | some h => show (_ || lessB (p.1.map (· * m)) (tak W h) k) = _; rw [lessB_mul hm]
    rw [e1, e2, e3]
    exact e
theorem Pr.turn (hw : IsWeb W) (h : Pr W p) : Pr (turnW W) (p.1, restL W.gives.length p.2) := by
  refine ⟨h.be.turn, fun k => ?_, ?_, ?_, ?_⟩
  · rw [rd_turn]; exact h.hi k
  · have e := h.ev
    unfold evenB at e ⊢
    have el : (turnW W).gives.length = W.gives.length := hw.same
    rw [el]
    rw [List.all_eq_true] at e ⊢
    intro k hk
    have := of_decide_eq_true (e k hk)
    rw [decide_eq_true_iff]
    exact this.symm
  · show calmB (turnW W) p.1 (restL W.gives.length p.2) = true
    rw [calm_turn hw]
    exact h.ca
  · have el : (turnW W).gives.length = W.gives.length := hw.same
    rw [el]
    exact restL_lot
/-- as the mathematics has it -/
theorem Pr.rests (hw : IsWeb W) (h : Pr W p) : Calm.Rests (netOf W) (at0 p.1) (fun x => x ∈ p.2) := by
  refine ⟨h.be.at, h.hi, fun x => ?_, fun k kn hk hb => ?_⟩
  · by_cases c : x < W.gives.length
    · have e := h.ev
      unfold evenB at e
      exact of_decide_eq_true (List.all_eq_true.mp e x (List.mem_range.mpr c))
    · show Calm.sm (giv W x) _ = Calm.sm (tak W x) _
      rw [giv_out c, tak_out hw c]
  · have kn : k < W.roads.length := kn
    have pu : pushB W p.1 p.2 k = true := by
      unfold pushB
      cases hb' : (rd W k).b with
      | none => rfl
      | some x =>
        show (p.2.contains x || lessB p.1 (giv W x) k) = true
        rw [Bool.or_eq_true, List.contains_iff_mem]
        rcases hb x hb' with z | ⟨j, hj, a, b⟩
        · exact .inl z
        · exact .inr ((lessB_iff (hw.nd_giv ((hw.rd kn).2.1 x hb'))).mpr ⟨j, hj, a, b⟩)
    have pl := calm_iff.mp h.ca k kn (decide_eq_true hk) pu
    obtain ⟨x, e, m, z⟩ := pull_false.mp pl
    refine ⟨x, e, m, fun j hj hij => ?_⟩
    have := h.be.at j
    apply Classical.byContradiction
    intro y
    have : lessB p.1 (tak W x) k = true := (lessB_iff (hw.nd_tak ((hw.rd kn).2.2.1 x e))).mpr ⟨j, hj, hij, by omega⟩
    rw [this] at z
    exact nomatch z
/-- what a house goes by -/
def keyL (W : Web) (p : List Int × List Nat) (h : Nat) : List Int := if p.2.contains h = true then 0 :: 0 :: (giv W h).map (at0 p.1) else 1 :: -((tak W h).map (at0 p.1)).sum :: (giv W h).map (at0 p.1)
theorem key_eq : Calm.key (netOf W) (at0 p.1) (fun x => x ∈ p.2) h = keyL W p h := by
  unfold Calm.key keyL
  by_cases c : h ∈ p.2
  · rw [if_pos c, if_pos (by simpa using c)]
    rfl
  · rw [if_neg c, if_neg (by simpa using c)]
    rfl
theorem lex_lx : ∀ l m : List Int, lexI l m = Calm.lx l m
  | [], [] => rfl
  | [], _ :: _ => rfl
  | _ :: _, [] => rfl
  | a :: l, b :: m => by rw [lexI, Calm.lx, lex_lx l m]
theorem q_gtL {l m : List Int} : gtU (.list (l.map PyData.int)) (.list (m.map PyData.int)) = some (.bool (Calm.lx m l)) := by
  have sh : ∀ l : List Int, SeqAt.shaped (.list (l.map PyData.int)) = true := fun l => (Lay.lst (k := 59) (Lay.map fun _ => Lay.int)).sh
  have al := alike_ints (f := id) (g := id) l m
  have e := toks_ints m l
  show (if _ then _ else _) = _
  rw [if_pos ⟨sh l, sh m, (by show PySem.W.alikeAll _ _ = true; exact al), rfl⟩]
  congr 2
  rw [← lex_lx]
  exact e
theorem eq_intsL {l m : List Int} : eqP (.list (l.map PyData.int)) (.list (m.map PyData.int)) = some (.bool (l == m)) := by
  rw [eqP_lay (Lay.lst (k := 59) (Lay.map fun _ => Lay.int)) (Lay.lst (k := 59) (Lay.map fun _ => Lay.int)), show PyData.eqv (.list (l.map PyData.int)) (.list (m.map PyData.int)) = PyData.eqvAll (l.map PyData.int) (m.map PyData.int) by simp [PyData.eqv], eqv_ints]
theorem p_stand (hw : IsWeb W) (hh : h < W.gives.length) (hl : p.1.length = W.roads.length) : F_standing_of [webD W, natD h, pairD p] = some (.list ((keyL W p h).map PyData.int)) := by
  have l1 := hw.len_giv hh
  have l2 := hw.len_tak hh
  have b := p_borne (f := p.1) (l := tak W h) (fun j hj => by rw [hl]; exact ((hw.mem_tak hh).mp hj).1) (by omega)
  refine eq_of_wp ?_
  unfold F_standing_of
  refine wp_runP rfl ?_
  unfold X_standing_of pairD
  simp -implicitDefEqProofs [atI_giv hh]
  refine ⟨by omega, wp_lcT (fun j => .int (at0 p.1 j)) (fun j hj => ?_) ?_⟩
  · have := ((hw.mem_giv hh).mp hj).1
    simp -implicitDefEqProofs [atI_bears (show j < p.1.length by omega)]
  simp -implicitDefEqProofs [in_nat, -List.contains_eq_mem]
  refine wp_alt (fun c => ?_) (fun c => ?_)
  · simp -implicitDefEqProofs
    refine ⟨by omega, ?_⟩
    unfold keyL
    rw [if_pos c]
    simp
  · simp -implicitDefEqProofs [atI_tak (show h < W.takes.length by rw [hw.same]; exact hh), b]
    refine ⟨by omega, ?_⟩
    unfold keyL
    rw [if_neg (by rw [c]; exact Bool.false_ne_true)]
    simp
/-- which pair is better -/
def cmpK (W : Web) (h : Nat) (p q : List Int × List Nat) : Int := if keyL W p h = keyL W q h then 0 else if Calm.lx (keyL W q h) (keyL W p h) = true then 1 else -1
theorem p_liked (hw : IsWeb W) (hh : h < W.gives.length) (hp : p.1.length = W.roads.length) (hq : q.1.length = W.roads.length) : F_liked [webD W, natD h, pairD p, pairD q] = some (.int (cmpK W h p q)) := by
  refine eq_of_wp ?_
  unfold F_liked
  refine wp_runP rfl ?_
  unfold X_liked
  simp -implicitDefEqProofs [p_stand hw hh hp, p_stand hw hh hq, eq_intsL, q_gtL]
  refine wp_alt (fun c => ?_) (fun c => ?_)
  · have e : cmpK W h p q = 0 := by unfold cmpK; rw [if_pos (by simpa using c)]
    simp -implicitDefEqProofs [e]
  · have e : cmpK W h p q = if Calm.lx (keyL W q h) (keyL W p h) = true then 1 else -1 := by unfold cmpK; rw [if_neg (by simpa using c)]
    simp -implicitDefEqProofs [q_gtL]
    refine wp_alt (fun c => ?_) (fun c => ?_)
    · rw [if_pos c] at e
      simp -implicitDefEqProofs [e]
    · rw [c] at e
      have e : cmpK W h p q = -1 := e
      simp -implicitDefEqProofs [e]
theorem cmp_anti : cmpK W h q p = 0 - cmpK W h p q := by
  unfold cmpK
  by_cases c : keyL W p h = keyL W q h
  · rw [if_pos c, if_pos c.symm]; rfl
  · rw [if_neg c, if_neg fun z => c z.symm]
    cases c1 : Calm.lx (keyL W q h) (keyL W p h) with
    | true => rw [Calm.lx_asym c1]; rfl
    | false =>
      cases c2 : Calm.lx (keyL W p h) (keyL W q h) with
      | true => rfl
      | false => exact absurd (Calm.lx_tri _ _ c2 c1) c
end
end Fn

namespace Fn
open PySem PySem.Spec PyProof.Rows L2 Uv
section
variable {W : Web} {p q : List Int × List Nat} {h : Nat}
theorem eq_nilL {l : List PD} (h : ∀ d ∈ l, Lay 59 d) : eqP (.list l) (.list []) = some (.bool l.isEmpty) := by
  rw [eqP_lay (Lay.lst h) (Lay.lst (k := 59) (by simp))]
  cases l with
  | nil => rfl
  | cons x xs => simp [PyData.eqv, PyData.eqvAll]
theorem e_noless {l : List Nat} (hp : ∀ j ∈ l, j < p.1.length) (hq : ∀ j ∈ l, j < q.1.length) (hl : l.length ≤ 40000) (hn : ∀ k ∈ l, ∀ j ∈ l, at0 q.1 k < at0 p.1 k → at0 p.1 j < at0 q.1 j → False) : F__law_no_less [pairD p, pairD q, natsD l] = some (.bool true) := by
  refine eq_of_wp ?_
  unfold F__law_no_less
  refine wp_runP rfl ?_
  unfold X__law_no_less pairD
  simp -implicitDefEqProofs
  refine ⟨hl, wp_lc (fun j => decide (at0 q.1 j < at0 p.1 j)) natD (fun j hj => ?_) ?_⟩
  · simp -implicitDefEqProofs [atI_bears (hp j hj), atI_bears (hq j hj)]
  simp -implicitDefEqProofs
  refine ⟨hl, wp_lc (fun j => decide (at0 p.1 j < at0 q.1 j)) natD (fun j hj => ?_) ?_⟩
  · simp -implicitDefEqProofs [atI_bears (hp j hj), atI_bears (hq j hj)]
  simp -implicitDefEqProofs [eq_nilL (Lay.map (k := 59) fun _ => Lay.int)]
  by_cases c : ∃ k ∈ l, at0 q.1 k < at0 p.1 k
  · obtain ⟨k, hk, c⟩ := c
    exact .inr fun j hj => Classical.byContradiction fun z => hn k hk j hj c (by omega)
  · exact .inl fun j hj => Classical.byContradiction fun z => c ⟨j, hj, by omega⟩
theorem Pr.even (hp : Pr W p) (hh : h < W.gives.length) : ((giv W h).map (at0 p.1)).sum = ((tak W h).map (at0 p.1)).sum := by
  have e := hp.ev
  unfold evenB at e
  exact of_decide_eq_true (List.all_eq_true.mp e h (List.mem_range.mpr hh))
/-- at a house of both lots -/
theorem less_g (hw : IsWeb W) (hp : Pr W p) (hq : Pr W q) (c1 : h ∈ p.2) (c2 : h ∈ q.2) : ∀ k ∈ giv W h, ∀ j ∈ giv W h, at0 q.1 k < at0 p.1 k → at0 p.1 j < at0 q.1 j → False := fun k hk j hj h1 h2 =>
  Calm.no_less_g (net_ok hw) (hp.rests hw) (hq.rests hw) (h := h) c1 c2 hk hj h1 h2
theorem less_t (hw : IsWeb W) (hp : Pr W p) (hq : Pr W q) (hh : h < W.gives.length) (c1 : h ∉ p.2) (c2 : h ∉ q.2) : ∀ k ∈ tak W h, ∀ j ∈ tak W h, at0 q.1 k < at0 p.1 k → at0 p.1 j < at0 q.1 j → False := fun k hk j hj h1 h2 => by
  have r : ∀ {l : List Nat}, h ∉ l → h ∈ restL W.gives.length l := fun {l} z => by
    have := restL_con (lot := l) hh
    rw [← List.contains_iff_mem, this]
    simpa using z
  exact less_g (h := h) hw.turn (hp.turn hw) (hq.turn hw) (r c1) (r c2) k hk j hj h1 h2
theorem first_lx (hw : IsWeb W) {f g : Nat → Int} {l : List Nat} (hne : l.map f ≠ l.map g) (hle : ∀ k ∈ l, f k ≤ g k) : Calm.lx (l.map f) (l.map g) = true := by
  have ex : ∃ k ∈ l, f k ≠ g k := by
    apply Classical.byContradiction
    intro z
    exact hne (List.map_congr_left fun k hk => Classical.byContradiction fun y => z ⟨k, hk, y⟩)
  obtain ⟨j, hj, hp, hl⟩ := Calm.least_of l (fun j => f j ≠ g j) ex
  exact Calm.lx_at hj (by have := hle j hj; omega) fun i hi hij => Classical.byContradiction fun z => hl i hi hij z
theorem e_better (hw : IsWeb W) (hh : h < W.gives.length) (hp : Pr W p) (hq : Pr W q) : F__law_better_b [webD W, natD h, pairD p, pairD q] = some (.int (cmpK W h p q)) := by
  have l1 := hw.len_giv hh
  have lp := hp.be.len
  have lq := hq.be.len
  have ep := hp.even hh
  have eq := hq.even hh
  obtain ⟨mp, hmp⟩ : ∃ m, m = (giv W h).map (at0 p.1) := ⟨_, rfl⟩
  obtain ⟨mq, hmq⟩ : ∃ m, m = (giv W h).map (at0 q.1) := ⟨_, rfl⟩
  have dp : (giv W h).map (fun j => PyData.int (at0 p.1 j)) = mp.map PyData.int := by rw [hmp, List.map_map]; rfl
  have dq : (giv W h).map (fun j => PyData.int (at0 q.1 j)) = mq.map PyData.int := by rw [hmq, List.map_map]; rfl
  have lmp : mp.length ≤ 20 := by rw [hmp, List.length_map]; exact l1
  have lmq : mq.length = mp.length := by rw [hmp, hmq, List.length_map, List.length_map]
  have kp : keyL W p h = if p.2.contains h = true then 0 :: 0 :: mp else 1 :: -mp.sum :: mp := by unfold keyL; rw [← ep, hmp]
  have kq : keyL W q h = if q.2.contains h = true then 0 :: 0 :: mq else 1 :: -mq.sum :: mq := by unfold keyL; rw [← eq, hmq]
  -- at a house of both lots
  have both : h ∈ p.2 → h ∈ q.2 → mp ≠ mq → Calm.lx mq mp = decide (∃ k, k < mp.length ∧ at0 mq k < at0 mp k) := fun c1 c2 hne => by
    have g := less_g hw hp hq c1 c2
    have at' : ∀ (f : List Int) (k : Nat), k < (giv W h).length → at0 ((giv W h).map (at0 f)) k = at0 f ((giv W h)[k]!) := fun f k hk => by
      rw [at0_eq (by simpa using hk), List.getElem_map]
      simp [hk]
    by_cases c : ∃ j ∈ giv W h, at0 q.1 j < at0 p.1 j
    · have l : Calm.lx mq mp = true := by
        rw [hmp, hmq]
        exact first_lx hw (fun z => hne (by rw [hmp, hmq, z])) fun j hj => Classical.byContradiction fun z => by
          obtain ⟨k, hk, c⟩ := c
          exact g k hk j hj c (by omega)
      rw [l]
      symm
      rw [decide_eq_true_iff]
      obtain ⟨j, hj, c⟩ := c
      obtain ⟨i, hi, rfl⟩ := List.mem_iff_getElem.mp hj
      refine ⟨i, by rw [hmp]; simpa using hi, ?_⟩
      rw [hmp, hmq, at' _ _ hi, at' _ _ hi]
      simpa [hi] using c
    · have l : Calm.lx mp mq = true := by
        rw [hmp, hmq]
        exact first_lx hw (fun z => hne (by rw [hmp, hmq, z])) fun j hj => Classical.byContradiction fun z => c ⟨j, hj, by omega⟩
      rw [Calm.lx_asym l]
      symm
      rw [decide_eq_false_iff_not]
      rintro ⟨i, hi, z⟩
      have hi : i < (giv W h).length := by rw [hmp] at hi; simpa using hi
      rw [hmp, hmq, at' _ _ hi, at' _ _ hi] at z
      exact c ⟨(giv W h)[i], List.getElem_mem hi, by simpa [hi] using z⟩
  obtain ⟨v, hv⟩ : ∃ v, v = cmpK W h p q := ⟨_, rfl⟩
  rw [← hv]
  unfold cmpK at hv
  rw [kp, kq] at hv
  clear kp kq
  refine eq_of_wp ?_
  unfold F__law_better_b
  refine wp_runP rfl ?_
  unfold X__law_better_b pairD
  simp -implicitDefEqProofs [in_nat, -List.contains_eq_mem]
  obtain ⟨b1, e1⟩ : ∃ b, b = p.2.contains h := ⟨_, rfl⟩
  obtain ⟨b2, e2⟩ : ∃ b, b = q.2.contains h := ⟨_, rfl⟩
  rw [← e1, ← e2] at hv ⊢
  have neb : neP (.bool b1) (.bool b2) = some (.bool (b1 != b2)) := by cases b1 <;> cases b2 <;> rfl
  simp -implicitDefEqProofs [neb]
  by_cases cb : b1 = b2
  · subst cb
    simp -implicitDefEqProofs [atI_giv hh]
    refine ⟨by omega, wp_lcT (fun j => .int (at0 p.1 j)) (fun j hj => ?_) ?_⟩
    · have := ((hw.mem_giv hh).mp hj).1
      simp -implicitDefEqProofs [atI_bears (show j < p.1.length by omega)]
    rw [dp]
    simp -implicitDefEqProofs [atI_giv hh]
    refine ⟨by omega, wp_lcT (fun j => .int (at0 q.1 j)) (fun j hj => ?_) ?_⟩
    · have := ((hw.mem_giv hh).mp hj).1
      simp -implicitDefEqProofs [atI_bears (show j < q.1.length by omega)]
    rw [dq]
    simp -implicitDefEqProofs [eq_intsL]
    refine wp_alt (fun c => ?_) (fun c => ?_)
    · have c : mp = mq := by simpa using c
      have : v = 0 := by rw [hv, c]; cases b1 <;> simp
      simp -implicitDefEqProofs [this]
    have c : mp ≠ mq := by simpa using c
    cases b1 with
    | true =>
      have c1 : h ∈ p.2 := by rw [← List.contains_iff_mem]; exact e1.symm
      have c2 : h ∈ q.2 := by rw [← List.contains_iff_mem]; exact e2.symm
      have bo := both c1 c2 c
      simp -implicitDefEqProofs
      refine ⟨in62_nat (by omega), by omega, wp_lc (fun k => decide (at0 mq k < at0 mp k)) natD (fun k hk => ?_) ?_⟩
      · have hk := List.mem_range.mp hk
        simp -implicitDefEqProofs [atI_bears hk, atI_bears (show k < mq.length by omega)]
      simp -implicitDefEqProofs [ne_nilL (Lay.map (k := 59) fun _ => Lay.int)]
      rw [if_pos rfl, if_pos rfl, if_neg (by simpa using c), Calm.lx, if_pos rfl, Calm.lx, if_pos rfl, bo] at hv
      by_cases z : ∃ k, k < mp.length ∧ at0 mq k < at0 mp k
      · rw [if_pos (decide_eq_true z)] at hv
        rw [if_pos z]
        simp -implicitDefEqProofs [hv, atI]
      · rw [if_neg (by rw [decide_eq_true_iff]; exact z)] at hv
        rw [if_neg z]
        simp -implicitDefEqProofs [hv, atI]
    | false =>
      simp -implicitDefEqProofs [q_sumI]
      rw [if_neg Bool.false_ne_true, if_neg Bool.false_ne_true, if_neg (by intro z; simp at z; exact c z.2), Calm.lx, if_pos rfl, Calm.lx] at hv
      refine wp_alt (fun c2 => ?_) (fun c2 => ?_)
      · have c2 : mp.sum ≠ mq.sum := by simpa using c2
        rw [if_neg (show ¬ (-mq.sum = -mp.sum) by omega)] at hv
        simp -implicitDefEqProofs [q_sumI]
        by_cases z : mp.sum < mq.sum
        · rw [if_pos (by rw [decide_eq_true_iff]; omega)] at hv
          rw [if_pos z]
          simp -implicitDefEqProofs [hv, atI]
        · rw [if_neg (by rw [decide_eq_true_iff]; omega)] at hv
          rw [if_neg z]
          simp -implicitDefEqProofs [hv, atI]
      · have c2 : mp.sum = mq.sum := by simpa using c2
        rw [if_pos (show -mq.sum = -mp.sum by omega)] at hv
        simp -implicitDefEqProofs [q_gtL]
        cases z : Calm.lx mq mp with
        | true =>
          rw [z, if_pos rfl] at hv
          simp -implicitDefEqProofs [hv, atI]
        | false =>
          rw [z, if_neg Bool.false_ne_true] at hv
          simp -implicitDefEqProofs [hv, atI]
  · have bb : (b1 != b2) = true := by simpa using cb
    rw [bb]
    cases b1 with
    | true =>
      have : b2 = false := by cases b2; rfl; exact absurd rfl cb
      subst this
      have : v = -1 := hv
      simp -implicitDefEqProofs [this, atI]
    | false =>
      have : b2 = true := by cases b2; exact absurd rfl cb; rfl
      subst this
      have : v = 1 := hv
      simp -implicitDefEqProofs [this, atI]
/-! k52's parts -/
theorem cmp_lt : (cmpK W h p q).natAbs ≤ 1 := by
  unfold cmpK
  split
  · decide
  · split <;> decide
theorem sho_ints2 {a b : Int} (ha : a.natAbs ≤ 1000) (hb : b.natAbs ≤ 1000) : Sho 60 10000000 (.list [.int a, .int b]) := (Sho.lst (k := 1) (n := 41) (L := 2) (fun d hd => by
  simp at hd
  rcases hd with rfl | rfl <;> exact Sho.int (by omega)) (by simp)).mono (by omega) (by omega)
theorem e_right52 (hw : IsWeb W) (hp : Pr W p) (hq : Pr W q) : F__law_right_m [webD W, pairD p, pairD q] = some (.bool true) := by
  have hc := hw.count
  have hh := hw.houses
  have lp := hp.be.len
  have lq := hq.be.len
  refine eq_of_wp ?_
  unfold F__law_right_m
  refine wp_runP rfl ?_
  unfold X__law_right_m
  simp -implicitDefEqProofs
  refine ⟨in62_nat (by omega), ?_⟩
  refine wp_forR (fun k ρ => ∃ (z3 z4 z5 : Sl), ρ = [.dat (webD W), .dat (pairD p), .dat (pairD q), z3, z4, z5]) ⟨_, _, _, rfl⟩ ?_ ?_
  · rintro h hh ρ ⟨z3, z4, z5, rfl⟩
    have l1 := hw.len_giv hh
    have l2 := hw.len_tak hh
    have g1 : ∀ j ∈ giv W h, j < p.1.length := fun j hj => by rw [lp]; exact ((hw.mem_giv hh).mp hj).1
    have g2 : ∀ j ∈ giv W h, j < q.1.length := fun j hj => by rw [lq]; exact ((hw.mem_giv hh).mp hj).1
    have t1 : ∀ j ∈ tak W h, j < p.1.length := fun j hj => by rw [lp]; exact ((hw.mem_tak hh).mp hj).1
    have t2 : ∀ j ∈ tak W h, j < q.1.length := fun j hj => by rw [lq]; exact ((hw.mem_tak hh).mp hj).1
    have be := e_better hw hh hp hq
    have k1 := p_liked hw hh lp lq
    have k2 := p_liked hw hh lq lp
    rw [cmp_anti, Int.zero_sub] at k2
    have sh := sho_ints2 (a := cmpK W h p q) (b := -cmpK W h p q) (by have := cmp_lt (W := W) (h := h) (p := p) (q := q); omega) (by have := cmp_lt (W := W) (h := h) (p := p) (q := q); omega)
    unfold X__law_right_m_b1
    have i1 : atI [intsD p.1, natsD p.2] 1 = some (natsD p.2) := rfl
    have i2 : atI [intsD q.1, natsD q.2] 1 = some (natsD q.2) := rfl
    have ep : pairD p = .tuple [intsD p.1, natsD p.2] := rfl
    have eq : pairD q = .tuple [intsD q.1, natsD q.2] := rfl
    have x1 : ixP (pairD p) (.int 1) = some (natsD p.2) := rfl
    have x2 : ixP (pairD q) (.int 1) = some (natsD q.2) := rfl
    simp -implicitDefEqProofs [in_nat, x1, x2, -List.contains_eq_mem]
    have ht : h < W.takes.length := by rw [hw.same]; exact hh
    have mem : ∀ {l : List Nat}, h ∈ l ↔ l.contains h = true := fun {l} => List.contains_iff_mem.symm
    cases c1 : p.2.contains h <;> cases c2 : q.2.contains h
    · have nl := e_noless t1 t2 (by omega) (less_t hw hp hq hh (fun z => by rw [mem, c1] at z; exact nomatch z) (fun z => by rw [mem, c2] at z; exact nomatch z))
      simp -implicitDefEqProofs [atI_tak ht, nl, be, k1, k2, rp_of sh, ne_shown sh]
      exact ⟨_, _, _, rfl⟩
    · simp -implicitDefEqProofs [be, k1, k2, rp_of sh, ne_shown sh]
      exact ⟨_, _, _, rfl⟩
    · simp -implicitDefEqProofs [be, k1, k2, rp_of sh, ne_shown sh]
      exact ⟨_, _, _, rfl⟩
    · have nl := e_noless g1 g2 (by omega) (less_g hw hp hq (mem.mpr c1) (mem.mpr c2))
      simp -implicitDefEqProofs [atI_giv hh, nl, be, k1, k2, rp_of sh, ne_shown sh]
      exact ⟨_, _, _, rfl⟩
  · rintro ρ ⟨z3, z4, z5, rfl⟩
    simp -implicitDefEqProofs
end
end Fn

namespace Fn
open PySem PySem.Spec PyProof.Rows L2 Uv
@[simp] theorem q_zip3 {xs ys zs : List PD} : zip3P [.tuple xs, .tuple ys, .tuple zs] = some (zipD3 xs ys zs) := (rfl)
section
variable {W : Web} {p q : List Int × List Nat} {h : Nat}
/-- what is asked of two that are joined -/
structure Sz (W : Web) (p : List Int × List Nat) : Prop where
  len : p.1.length = W.roads.length
  lo : IsLot W.gives.length p.2
theorem Pr.sz (hp : Pr W p) : Sz W p := ⟨hp.be.len, hp.lo⟩
def joinS (W : Web) (p q : List Int × List Nat) (k : Nat) : Int := match (rd W k).b with
  | none => at0 p.1 k
  | some h => if cmpK W h p q < 0 then at0 q.1 k else at0 p.1 k
def joinL (W : Web) (p q : List Int × List Nat) : List Int × List Nat := ((List.range W.roads.length).map (joinS W p q), p.2.filter fun h => q.2.contains h)
def metL (W : Web) (p q : List Int × List Nat) : List Int × List Nat := ((List.range W.roads.length).map fun k => at0 p.1 k + at0 q.1 k - joinS W p q k, (List.range W.gives.length).filter fun h => p.2.contains h || q.2.contains h)
theorem at0_range {f : Nat → Int} {n k : Nat} (hk : k < n) : at0 ((List.range n).map f) k = f k := by
  rw [at0_eq (by simpa using hk)]
  simp
theorem join_sz (hp : Sz W p) : Sz W (joinL W p q) := ⟨by simp [joinL], ⟨List.Pairwise.filter _ hp.lo.up, fun x hx => hp.lo.lt x (List.mem_filter.mp hx).1⟩⟩
theorem met_sz : Sz W (metL W p q) := ⟨by simp [metL], ⟨List.Pairwise.filter _ List.pairwise_lt_range, fun x hx => List.mem_range.mp (List.mem_filter.mp hx).1⟩⟩
theorem p_joined (hw : IsWeb W) (hp : Sz W p) (hq : Sz W q) : F_joined [webD W, pairD p, pairD q] = some (pairD (joinL W p q)) := by
  have hc := hw.count
  have hh := hw.houses
  have l8 : p.2.length ≤ W.gives.length := lot_len hp.lo
  have lp := hp.len
  have lq := hq.len
  refine eq_of_wp ?_
  unfold F_joined
  refine wp_runP rfl ?_
  unfold X_joined
  simp -implicitDefEqProofs
  refine ⟨in62_nat (by omega), by omega, wp_lcT (fun h => pairD (if cmpK W h p q < 0 then q else p)) (fun h hh => ?_) ?_⟩
  · have hh := List.mem_range.mp hh
    simp -implicitDefEqProofs [p_liked hw hh hp.len hq.len]
    refine wp_altd (fun c => ?_) (fun c => ?_)
    · simp -implicitDefEqProofs [c]
    · simp -implicitDefEqProofs [c]
  have x0 : ∀ r : List Int × List Nat, ixP (pairD r) (.int 0) = some (intsD r.1) := fun r => rfl
  have x1 : ∀ r : List Int × List Nat, ixP (pairD r) (.int 1) = some (natsD r.2) := fun r => rfl
  simp -implicitDefEqProofs
  refine ⟨by omega, wp_lcET (fun x => .int (joinS W p q x.2)) (fun k hk => ?_) ?_⟩
  · have er : W.roads[k] = rd W k := (rd_eq hk).symm
    rw [er]
    cases hb : (rd W k).b with
    | none =>
      have ej : joinS W p q k = at0 p.1 k := by unfold joinS; rw [hb]
      simp -implicitDefEqProofs [roadD, hb, endD, x0, ej, atI_bears (show k < p.1.length by omega)]
    | some h =>
      have hh := (hw.rd hk).2.1 h hb
      have ej : joinS W p q k = if cmpK W h p q < 0 then at0 q.1 k else at0 p.1 k := by unfold joinS; rw [hb]
      have ea : atI ((List.range W.gives.length).map fun h => pairD (if cmpK W h p q < 0 then q else p)) (h : Int) = some (pairD (if cmpK W h p q < 0 then q else p)) := by
        rw [atI_map (by simpa using hh)]
        simp
      simp -implicitDefEqProofs [roadD, hb, endD, ea]
      by_cases c : cmpK W h p q < 0
      · rw [if_pos c] at ej
        simp -implicitDefEqProofs [c, x0, ej, atI_bears (show k < q.1.length by omega)]
      · rw [if_neg c] at ej
        simp -implicitDefEqProofs [c, x0, ej, atI_bears (show k < p.1.length by omega)]
  · simp -implicitDefEqProofs [x1]
    refine ⟨by omega, wp_lc (fun h => q.2.contains h) natD (fun h hh => ?_) ?_⟩
    · simp -implicitDefEqProofs [x1, in_nat, -List.contains_eq_mem]
    simp -implicitDefEqProofs [-List.contains_eq_mem]
    have e : W.roads.zipIdx.map (fun x => PyData.int (joinS W p q x.2)) = ((List.range W.roads.length).map (joinS W p q)).map PyData.int := by
      rw [List.map_map, List.range_eq_range', ← List.zipIdx_map_snd 0 W.roads, List.map_map]
      rfl
    unfold pairD joinL natsD intsD
    rw [e]
theorem zip3_map {α : Type} {f g h : α → PD} {l : List α} : zipD3 (l.map f) (l.map g) (l.map h) = l.map fun k => .tuple [f k, g k, h k] := by
  induction l with
  | nil => rfl
  | cons x xs ih => rw [List.map_cons, List.map_cons, List.map_cons, zipD3, ih]; rfl
theorem ints_range {f : List Int} {n : Nat} (hf : f.length = n) : f.map PyData.int = (List.range n).map fun k => .int (at0 f k) := by
  apply List.ext_getElem
  · simp [hf]
  · intro i h1 h2
    simp at h1 h2
    simp [at0_eq h1]
theorem p_met (hw : IsWeb W) (hp : Sz W p) (hq : Sz W q) : F_met [webD W, pairD p, pairD q] = some (pairD (metL W p q)) := by
  have hc := hw.count
  have hh := hw.houses
  have lp := hp.len
  have lq := hq.len
  have x0 : ∀ r : List Int × List Nat, ixP (pairD r) (.int 0) = some (intsD r.1) := fun r => rfl
  have x1 : ∀ r : List Int × List Nat, ixP (pairD r) (.int 1) = some (natsD r.2) := fun r => rfl
  have ez : zip3P [intsD p.1, intsD q.1, intsD (joinL W p q).1] = some ((List.range W.roads.length).map fun k => .tuple [.int (at0 p.1 k), .int (at0 q.1 k), .int (joinS W p q k)]) := by
    unfold intsD
    rw [q_zip3, ints_range lp, ints_range lq]
    have e : (joinL W p q).1.map PyData.int = (List.range W.roads.length).map fun k => PyData.int (joinS W p q k) := by
      unfold joinL
      rw [List.map_map]
      rfl
    rw [e, zip3_map]
  refine eq_of_wp ?_
  unfold F_met
  refine wp_runP rfl ?_
  unfold X_met
  simp -implicitDefEqProofs [p_joined hw hp hq, x0, ez]
  refine ⟨by omega, wp_lcT (enc := fun k => .tuple [.int (at0 p.1 k), .int (at0 q.1 k), .int (joinS W p q k)]) (fun k => .int (at0 p.1 k + at0 q.1 k - joinS W p q k)) (fun k hk => ?_) ?_⟩
  · simp -implicitDefEqProofs
  simp -implicitDefEqProofs
  refine ⟨in62_nat (by omega), by omega, wp_lc (fun h => p.2.contains h || q.2.contains h) natD (fun h hh => ?_) ?_⟩
  · simp -implicitDefEqProofs [x1, in_nat, -List.contains_eq_mem]
  simp -implicitDefEqProofs [-List.contains_eq_mem]
  unfold pairD metL natsD intsD
  rw [List.map_map]
  rfl
/-! keys of what is joined and met -/
theorem lot_same {n : Nat} {a b : List Nat} (ha : IsLot n a) (hb : IsLot n b) (h : ∀ x, x < n → (a.contains x = b.contains x)) : a = b := by
  refine List.Perm.eq_of_pairwise (le := fun a b => a < b) (fun a b _ _ h1 h2 => by omega) ha.up hb.up ?_
  refine (List.perm_ext_iff_of_nodup (ha.up.imp fun h => by omega) (hb.up.imp fun h => by omega)).mpr fun z => ?_
  rw [← List.contains_iff_mem, ← List.contains_iff_mem]
  constructor
  · intro hz; rw [← h z (ha.lt z (List.contains_iff_mem.mp hz))]; exact hz
  · intro hz; rw [h z (hb.lt z (List.contains_iff_mem.mp hz))]; exact hz
def mx (a b : List Int) : List Int := if Calm.lx a b = true then b else a
def mn (a b : List Int) : List Int := if Calm.lx a b = true then a else b
/-- what a key tells of lot and bears -/
def vwK : List Int → Bool × List Int
  | x :: _ :: l => (x == 0, l)
  | _ => (false, [])
def view (W : Web) (p : List Int × List Nat) (h : Nat) : Bool × List Int := (p.2.contains h, (giv W h).map (at0 p.1))
theorem vw_key : vwK (keyL W p h) = view W p h := by
  unfold keyL view
  cases c : p.2.contains h <;> rfl
theorem cmp_neg : cmpK W h p q < 0 ↔ Calm.lx (keyL W p h) (keyL W q h) = true := by
  unfold cmpK
  by_cases c : keyL W p h = keyL W q h
  · rw [if_pos c, c, Calm.lx_irr]; simp
  · rw [if_neg c]
    cases c1 : Calm.lx (keyL W q h) (keyL W p h) with
    | true => rw [Calm.lx_asym c1]; simp
    | false =>
      cases c2 : Calm.lx (keyL W p h) (keyL W q h) with
      | true => simp
      | false => exact absurd (Calm.lx_tri _ _ c2 c1) c
theorem joinS_at (hw : IsWeb W) {k : Nat} (hh : h < W.gives.length) (hk : k ∈ giv W h) : joinS W p q k = if Calm.lx (keyL W p h) (keyL W q h) = true then at0 q.1 k else at0 p.1 k := by
  have := ((hw.mem_giv hh).mp hk).2
  unfold joinS
  rw [this]
  by_cases c : cmpK W h p q < 0
  · show (if cmpK W h p q < 0 then _ else _) = _
    rw [if_pos c, if_pos (cmp_neg.mp c)]
  · show (if cmpK W h p q < 0 then _ else _) = _
    rw [if_neg c, if_neg fun z => c (cmp_neg.mpr z)]
theorem lx_lots (c : Calm.lx (keyL W p h) (keyL W q h) = true) : q.2.contains h = true → p.2.contains h = true := fun z => by
  unfold keyL at c
  rw [if_pos z] at c
  cases y : p.2.contains h with
  | true => rfl
  | false =>
    rw [y, if_neg Bool.false_ne_true, Calm.lx, if_neg (by decide)] at c
    simp at c
theorem nlx_lots (c : Calm.lx (keyL W p h) (keyL W q h) = false) : p.2.contains h = true → q.2.contains h = true := fun z => by
  unfold keyL at c
  rw [if_pos z] at c
  cases y : q.2.contains h with
  | true => rfl
  | false =>
    rw [y, if_neg Bool.false_ne_true, Calm.lx, if_neg (by decide)] at c
    simp at c
theorem con_filter {l m : List Nat} {x : Nat} : (l.filter fun h => m.contains h).contains x = (l.contains x && m.contains x) := by
  apply Bool.eq_iff_iff.mpr
  rw [List.contains_iff_mem, List.mem_filter, Bool.and_eq_true, List.contains_iff_mem, List.contains_iff_mem]
theorem con_range {n : Nat} {f : Nat → Bool} {x : Nat} (hx : x < n) : ((List.range n).filter f).contains x = f x := by
  apply Bool.eq_iff_iff.mpr
  rw [List.contains_iff_mem, List.mem_filter, List.mem_range]
  exact ⟨fun z => z.2, fun z => ⟨hx, z⟩⟩
theorem view_join (hw : IsWeb W) (hh : h < W.gives.length) : view W (joinL W p q) h = vwK (mx (keyL W p h) (keyL W q h)) := by
  have e2 : (joinL W p q).2.contains h = (p.2.contains h && q.2.contains h) := con_filter
  have e1 : (giv W h).map (at0 (joinL W p q).1) = (giv W h).map (joinS W p q) := List.map_congr_left fun k hk => at0_range ((hw.mem_giv hh).mp hk).1
  unfold view
  rw [e1, e2]
  unfold mx
  cases c : Calm.lx (keyL W p h) (keyL W q h) with
  | true =>
    rw [if_pos rfl, vw_key]
    unfold view
    congr 1
    · have := lx_lots c
      cases y : q.2.contains h with
      | true => rw [this y]; rfl
      | false => rw [Bool.and_false]
    · exact List.map_congr_left fun k hk => by rw [joinS_at hw hh hk, if_pos c]
  | false =>
    rw [if_neg Bool.false_ne_true, vw_key]
    unfold view
    congr 1
    · have := nlx_lots c
      cases y : p.2.contains h with
      | true => rw [this y]; rfl
      | false => rw [Bool.false_and]
    · exact List.map_congr_left fun k hk => by rw [joinS_at hw hh hk, if_neg (by rw [c]; exact Bool.false_ne_true)]
theorem view_met (hw : IsWeb W) (hh : h < W.gives.length) : view W (metL W p q) h = vwK (mn (keyL W p h) (keyL W q h)) := by
  have e2 : (metL W p q).2.contains h = (p.2.contains h || q.2.contains h) := con_range hh
  have e1 : (giv W h).map (at0 (metL W p q).1) = (giv W h).map fun k => at0 p.1 k + at0 q.1 k - joinS W p q k := List.map_congr_left fun k hk => at0_range ((hw.mem_giv hh).mp hk).1
  unfold view
  rw [e1, e2]
  unfold mn
  cases c : Calm.lx (keyL W p h) (keyL W q h) with
  | true =>
    rw [if_pos rfl, vw_key]
    unfold view
    congr 1
    · have := lx_lots c
      cases y : q.2.contains h with
      | true => rw [this y]; rfl
      | false => rw [Bool.or_false]
    · exact List.map_congr_left fun k hk => by rw [joinS_at hw hh hk, if_pos c]; omega
  | false =>
    rw [if_neg Bool.false_ne_true, vw_key]
    unfold view
    congr 1
    · have := nlx_lots c
      cases y : p.2.contains h with
      | true => rw [this y]; rfl
      | false => rw [Bool.false_or]
    · exact List.map_congr_left fun k hk => by rw [joinS_at hw hh hk, if_neg (by rw [c]; exact Bool.false_ne_true)]; omega
/-- at in-doors -/
def Dr (W : Web) (d : Nat → Int) (p : List Int × List Nat) : Prop := ∀ k, k < W.roads.length → (rd W k).b = none → at0 p.1 k = d k
theorem Dr.join {d : Nat → Int} (hp : Dr W d p) : Dr W d (joinL W p q) := fun k hk hb => by
  show at0 ((List.range W.roads.length).map (joinS W p q)) k = _
  rw [at0_range hk]
  unfold joinS
  rw [hb]
  exact hp k hk hb
theorem Dr.met {d : Nat → Int} (hq : Dr W d q) : Dr W d (metL W p q) := fun k hk hb => by
  show at0 ((List.range W.roads.length).map fun k => at0 p.1 k + at0 q.1 k - joinS W p q k) k = _
  rw [at0_range hk]
  unfold joinS
  rw [hb]
  show at0 p.1 k + at0 q.1 k - at0 p.1 k = _
  rw [hq k hk hb]
  omega
theorem pair_ext (hw : IsWeb W) (hp : Sz W p) (hq : Sz W q) {d : Nat → Int} (dp : Dr W d p) (dq : Dr W d q) (hv : ∀ h, h < W.gives.length → view W p h = view W q h) : p = q := by
  obtain ⟨f, l⟩ := p
  obtain ⟨g, m⟩ := q
  have e2 : l = m := lot_same hp.lo hq.lo fun x hx => congrArg Prod.fst (hv x hx)
  have e1 : f = g := by
    apply List.ext_getElem
    · have h1 := hp.len; have h2 := hq.len; exact h1.trans h2.symm
    intro k h1 h2
    have kn : k < W.roads.length := by have := hp.len; simp only at this; omega
    rw [← at0_eq h1, ← at0_eq h2]
    cases hb : (rd W k).b with
    | none => exact (dp k kn hb).trans (dq k kn hb).symm
    | some h =>
      have hh := (hw.rd kn).2.1 h hb
      have e := congrArg Prod.snd (hv h hh)
      have e : (giv W h).map (at0 f) = (giv W h).map (at0 g) := e
      exact List.map_inj_left.mp e k ((hw.mem_giv hh).mpr ⟨kn, hb⟩)
  rw [e1, e2]
/-! the mathematics' own -/
theorem key_congr {N : Calm.Net} {f g : Nat → Int} {S T : Nat → Prop} (h1 : ∀ k ∈ N.g h, f k = g k) (h2 : ∀ k ∈ N.t h, f k = g k) (h3 : S h ↔ T h) : Calm.key N f S h = Calm.key N g T h := by
  unfold Calm.key
  rw [List.map_congr_left h1, Calm.sm_same (g' := f) (g := g) h2]
  by_cases c : S h
  · rw [if_pos c, if_pos (h3.mp c)]
  · rw [if_neg c, if_neg fun z => c (h3.mpr z)]
theorem joinS_jn (hw : IsWeb W) (hp : Pr W p) (hq : Pr W q) {k : Nat} (hk : k < W.roads.length) : joinS W p q k = Calm.jn (netOf W) (at0 p.1) (fun x => x ∈ p.2) (at0 q.1) (fun x => x ∈ q.2) k := by
  unfold Calm.jn
  cases hb : (rd W k).b with
  | none =>
    rw [if_neg]
    · unfold joinS; rw [hb]
    · rintro ⟨h, e, _⟩
      have e : (rd W k).b = some h := e
      rw [hb] at e
      exact nomatch e
  | some h =>
    have hh := (hw.rd hk).2.1 h hb
    have kg : k ∈ giv W h := (hw.mem_giv hh).mpr ⟨hk, hb⟩
    have ui := Calm.up_iff (net_ok hw) (hp.rests hw) (hq.rests hw) (h := h) hh
    rw [key_eq, key_eq] at ui
    rw [joinS_at hw hh kg]
    by_cases c : Calm.lx (keyL W p h) (keyL W q h) = true
    · rw [if_pos c, if_pos ⟨h, hb, ui.mp c⟩]
    · rw [if_neg c, if_neg]
      rintro ⟨h', e, u⟩
      have e : (rd W k).b = some h' := e
      rw [hb] at e
      have := Option.some.inj e
      subst this
      exact c (ui.mpr u)
theorem key_join (hw : IsWeb W) (hp : Pr W p) (hq : Pr W q) (hh : h < W.gives.length) : keyL W (joinL W p q) h = mx (keyL W p h) (keyL W q h) := by
  have kj := Calm.key_jn (net_ok hw) (hp.rests hw) (hq.rests hw) (h := h) hh
  have ui := Calm.up_iff (net_ok hw) (hp.rests hw) (hq.rests hw) (h := h) hh
  rw [key_eq, key_eq] at ui
  have e1 : Calm.key (netOf W) (Calm.jn (netOf W) (at0 p.1) (fun x => x ∈ p.2) (at0 q.1) (fun x => x ∈ q.2)) (fun x => x ∈ p.2 ∧ x ∈ q.2) h = keyL W (joinL W p q) h := by
    rw [← key_eq]
    have a : ∀ k, k < W.roads.length → Calm.jn (netOf W) (at0 p.1) (fun x => x ∈ p.2) (at0 q.1) (fun x => x ∈ q.2) k = at0 (joinL W p q).1 k := fun k hk => by
      rw [← joinS_jn hw hp hq hk]
      exact (at0_range hk).symm
    have g3 : (h ∈ p.2 ∧ h ∈ q.2) ↔ h ∈ (joinL W p q).2 := by
      show _ ↔ h ∈ p.2.filter fun h => q.2.contains h
      rw [List.mem_filter, List.contains_iff_mem]
    exact key_congr (fun k hk => a k ((hw.mem_giv hh).mp hk).1) (fun k hk => a k ((hw.mem_tak hh).mp hk).1) g3
  rw [← e1, kj, key_eq, key_eq]
  unfold mx
  by_cases c : Calm.lx (keyL W p h) (keyL W q h) = true
  · rw [if_pos c, if_pos (ui.mp c)]
  · rw [if_neg c, if_neg fun z => c (ui.mpr z)]
theorem key_met (hw : IsWeb W) (hp : Pr W p) (hq : Pr W q) (hh : h < W.gives.length) : keyL W (metL W p q) h = mn (keyL W p h) (keyL W q h) := by
  have kj := Calm.key_mt (net_ok hw) (hp.rests hw) (hq.rests hw) (h := h) hh
  have ui := Calm.up_iff (net_ok hw) (hp.rests hw) (hq.rests hw) (h := h) hh
  rw [key_eq, key_eq] at ui
  have e1 : Calm.key (netOf W) (Calm.mt (netOf W) (at0 p.1) (fun x => x ∈ p.2) (at0 q.1) (fun x => x ∈ q.2)) (fun x => x ∈ p.2 ∨ x ∈ q.2) h = keyL W (metL W p q) h := by
    rw [← key_eq]
    have a : ∀ k, k < W.roads.length → Calm.mt (netOf W) (at0 p.1) (fun x => x ∈ p.2) (at0 q.1) (fun x => x ∈ q.2) k = at0 (metL W p q).1 k := fun k hk => by
      rw [Calm.jn_mt, ← joinS_jn hw hp hq hk]
      exact (at0_range (f := fun k => at0 p.1 k + at0 q.1 k - joinS W p q k) hk).symm
    have g3 : (h ∈ p.2 ∨ h ∈ q.2) ↔ h ∈ (metL W p q).2 := by
      show _ ↔ h ∈ (List.range W.gives.length).filter fun h => p.2.contains h || q.2.contains h
      rw [List.mem_filter, List.mem_range, Bool.or_eq_true, List.contains_iff_mem, List.contains_iff_mem]
      exact ⟨fun z => ⟨hh, z⟩, fun z => z.2⟩
    exact key_congr (fun k hk => a k ((hw.mem_giv hh).mp hk).1) (fun k hk => a k ((hw.mem_tak hh).mp hk).1) g3
  rw [← e1, kj, key_eq, key_eq]
  unfold mn
  by_cases c : Calm.lx (keyL W p h) (keyL W q h) = true
  · rw [if_pos c, if_pos (ui.mp c)]
  · rw [if_neg c, if_neg fun z => c (ui.mpr z)]
end
end Fn

namespace Uv
open PySem PySem.Spec PyProof.Rows L2
/-! defs that are lent a list -/
def endV {Q : List Cel × List Cel → Prop} (_ : Tag Q) : Out → Prop
  | .retO r ρ => wp (ownAt ρ 0) (tag fun cs => Q (r, cs))
  | _ => False
@[simp] theorem endV_ret {Q : List Cel × List Cel → Prop} {r : List Cel} {ρ : Env} : endV (tag Q) (.retO r ρ) = wp (ownAt ρ 0) (tag fun cs => Q (r, cs)) := (rfl)
theorem wp_runV {n k : Nat} {X : XS} {cs : List Cel} {ds : List PD} {Q : List Cel × List Cel → Prop} (hn : ds.length = n) (h : wp (X (.own cs :: (ds.map Sl.dat ++ List.replicate k Sl.un))) (tag (endV (tag Q)))) : wp (runV n k X cs ds) (tag Q) := by
  obtain ⟨o, e, h⟩ := h
  unfold runV
  rw [if_pos hn, e]
  cases o with
  | retO r ρ =>
    obtain ⟨cs', e2, h2⟩ := h
    exact ⟨(r, cs'), by rw [Option.bind_some]; show (ownAt ρ 0).bind _ = _; rw [e2]; rfl, h2⟩
  | _ => exact h.elim
@[simp] theorem q_wCallV {i m : Nat} {g : List Cel → List PD → Option (List Cel × List Cel)} {a : XW} {ρ : Env} : wCallV i m g a ρ = (ownAt ρ i).bind fun _ => (a ρ).bind fun x => (ownAt x.2 i).bind fun cs => (ownAt x.2 m).bind fun ms => (allDat ms).bind fun ds => (g cs [x.1, .list ds]).bind fun y => grd (flatC y.1 = true ∧ flatC y.2 = true) (some (y.1, x.2.set i (.own y.2))) := by
  unfold wCallV
  simp only [grd_ite]
theorem flats_mapA {α : Type} {f : α → PD} (h : ∀ x, flat (f x) = true) : ∀ l : List α, flats (l.map f) = true
  | [] => q_flats_nil
  | x :: l => by rw [List.map_cons, q_flats_cons, h x, flats_mapA h l]; rfl
theorem flatC_dats : ∀ {ds : List PD}, flats ds = true → flatC (dats ds) = true
  | [], _ => rfl
  | d :: ds, h => by
    rw [q_flats_cons, Bool.and_eq_true] at h
    show (flat d && flatC (dats ds)) = true
    rw [h.1, flatC_dats h.2]
    rfl
/-! ends in lists -/
theorem eqv_end {a b : Option Nat} : PyData.eqv (endD a) (endD b) = (a == b) := by
  cases a with
  | none => cases b <;> rfl
  | some x =>
    cases b with
    | none => rfl
    | some y =>
      show PyData.eqv (natD x) (natD y) = _
      rw [eqv_nat]
      exact Bool.eq_iff_iff.mpr (by simp)
theorem any_endL {os : List (Option Nat)} {o : Option Nat} : ((os.map endD).any fun z => PyData.eqv z (endD o)) = os.contains o := by
  induction os with
  | nil => rfl
  | cons x xs ih =>
    rw [List.map_cons, List.any_cons, ih, List.contains_cons, eqv_end]
    congr 1
    exact Bool.eq_iff_iff.mpr (by simp; exact eq_comm)
theorem in_endL {os : List (Option Nat)} {o : Option Nat} : inP (endD o) (.list (os.map endD)) = some (.bool (os.contains o)) := by
  unfold inP
  rw [if_pos ⟨lay_end.sh, (Lay.lst (k := 59) (Lay.map fun _ => lay_end)).sh⟩]
  show some (PyData.bool _) = _
  rw [any_endL]
theorem notin_endL {os : List (Option Nat)} {o : Option Nat} : notinP (endD o) (.list (os.map endD)) = some (.bool (!os.contains o)) := by
  unfold notinP
  rw [if_pos ⟨lay_end.sh, (Lay.lst (k := 59) (Lay.map fun _ => lay_end)).sh⟩]
  show some (PyData.bool _) = _
  rw [any_endL]
theorem idx_endL {os : List (Option Nat)} {o : Option Nat} (h : o ∈ os) : idxP (.list (os.map endD)) (endD o) = some (natD (os.idxOf o)) := by
  have hf : (os.map endD).findIdx? (fun z => PyData.eqv z (endD o)) = some (os.idxOf o) := by
    induction os with
    | nil => exact nomatch h
    | cons x xs ih =>
      rw [List.map_cons, List.findIdx?_cons, List.idxOf_cons, eqv_end]
      by_cases c : x = o
      · simp [c]
      · have hk : o ∈ xs := (List.mem_cons.mp h).resolve_left fun z => c z.symm
        have e2 : (x == o) = false := by simpa using c
        rw [e2]
        simp [ih hk]
  unfold idxP
  dsimp only
  rw [if_pos ⟨(Lay.lst (k := 59) (Lay.map fun _ => lay_end)).sh, lay_end.sh⟩, hf]
end Uv
namespace Fn
open PySem PySem.Spec PyProof.Rows L2 Uv
/-! ways and rings -/
section
variable {W : Web} {R : List Nat} {f : List Int}
def begs (W : Web) (R : List Nat) : List (Option Nat) := R.map fun k => (rd W k).b
def ends (W : Web) (R : List Nat) : List (Option Nat) := R.map fun k => (rd W k).e
structure RowOk (W : Web) (R : List Nat) : Prop where
  lt : ∀ k ∈ R, k < W.roads.length
  nd : R.Nodup
  bal : (begs W R).Perm (ends W R)
/-- as much on each road of the row -/
def ind (R : List Nat) (c : Int) (k : Nat) : Int := if k ∈ R then c else 0
theorem ind_sm {l : List Nat} {c : Int} (hl : l.Nodup) (hr : R.Nodup) : Calm.sm l (ind R c) = Calm.sm R (ind l c) := by
  have e1 : ∀ {l m : List Nat}, m.Nodup → Calm.sm l (ind m c) = Calm.sm l fun k => Calm.sm m fun j => if j = k then c else 0 := fun {l m} hm => Calm.sm_same fun k _ => by
    by_cases h : k ∈ m
    · show (if k ∈ m then c else 0) = _
      rw [if_pos h, Calm.sm_single (a := k) hm h fun j _ hj => if_neg hj, if_pos rfl]
    · show (if k ∈ m then c else 0) = _
      rw [if_neg h]
      exact (Calm.sm_nul fun j hj => by rw [if_neg]; rintro rfl; exact h hj).symm
  rw [e1 hr, e1 hl, Calm.sm_swap]
  exact Calm.sm_same fun j _ => Calm.sm_same fun k _ => by
    by_cases h : j = k
    · rw [if_pos h, if_pos h.symm]
    · rw [if_neg h, if_neg fun z => h z.symm]
def cnt (o : Option Nat) (c : Int) (l : List (Option Nat)) : Int := (l.map fun x => if x = o then c else 0).sum
theorem cnt_perm {o : Option Nat} {c : Int} {l m : List (Option Nat)} (p : l.Perm m) : cnt o c l = cnt o c m := by
  unfold cnt
  induction p with
  | nil => rfl
  | cons x _ ih => rw [List.map_cons, List.map_cons, List.sum_cons, List.sum_cons, ih]
  | swap x y l => simp only [List.map_cons, List.sum_cons]; omega
  | trans _ _ h1 h2 => rw [h1, h2]
theorem sm_giv (hw : IsWeb W) (hr : RowOk W R) {h : Nat} (hh : h < W.gives.length) {c : Int} : Calm.sm (giv W h) (ind R c) = cnt (some h) c (begs W R) := by
  rw [ind_sm (hw.nd_giv hh) hr.nd]
  unfold cnt begs Calm.sm
  rw [List.map_map]
  congr 1
  refine List.map_congr_left fun k hk => ?_
  show (if k ∈ giv W h then c else 0) = if (rd W k).b = some h then c else 0
  by_cases z : (rd W k).b = some h
  · rw [if_pos z, if_pos ((hw.mem_giv hh).mpr ⟨hr.lt k hk, z⟩)]
  · rw [if_neg z, if_neg fun y => z ((hw.mem_giv hh).mp y).2]
theorem sm_tak (hw : IsWeb W) (hr : RowOk W R) {h : Nat} (hh : h < W.gives.length) {c : Int} : Calm.sm (tak W h) (ind R c) = cnt (some h) c (ends W R) := by
  rw [ind_sm (hw.nd_tak hh) hr.nd]
  unfold cnt ends Calm.sm
  rw [List.map_map]
  congr 1
  refine List.map_congr_left fun k hk => ?_
  show (if k ∈ tak W h then c else 0) = if (rd W k).e = some h then c else 0
  by_cases z : (rd W k).e = some h
  · rw [if_pos z, if_pos ((hw.mem_tak hh).mpr ⟨hr.lt k hk, z⟩)]
  · rw [if_neg z, if_neg fun y => z ((hw.mem_tak hh).mp y).2]
theorem row_even (hw : IsWeb W) (hr : RowOk W R) {h : Nat} (hh : h < W.gives.length) {c : Int} : Calm.sm (giv W h) (ind R c) = Calm.sm (tak W h) (ind R c) := by
  rw [sm_giv hw hr hh, sm_tak hw hr hh, cnt_perm hr.bal]
/-- one road behind the other -/
structure Chn (W : Web) (R : List Nat) (z : Option Nat) : Prop where
  ne : R ≠ []
  lt : ∀ k ∈ R, k < W.roads.length
  nd : (begs W R).Nodup
  ch : ends W R = (begs W R).tail ++ [z]
theorem Chn.snoc {z : Option Nat} (h : Chn W R z) {k : Nat} (hk : k < W.roads.length) (hb : (rd W k).b = z) (hz : z ∉ begs W R) : Chn W (R ++ [k]) (rd W k).e := by
  have eb : begs W (R ++ [k]) = begs W R ++ [z] := by unfold begs; rw [List.map_append, List.map_cons, hb]; rfl
  refine ⟨by simp, fun j hj => ?_, ?_, ?_⟩
  · rcases List.mem_append.mp hj with y | y
    · exact h.lt j y
    · rw [List.mem_singleton.mp y]; exact hk
  · rw [eb]
    refine List.nodup_append.mpr ⟨h.nd, by simp, fun a ha b hb' => ?_⟩
    rw [List.mem_singleton.mp hb']
    rintro rfl
    exact hz ha
  · have ee : ends W (R ++ [k]) = ends W R ++ [(rd W k).e] := by unfold ends; rw [List.map_append]; rfl
    rw [ee, eb, h.ch]
    have : begs W R ≠ [] := by unfold begs; simpa using h.ne
    rw [List.tail_append_of_ne_nil this]
theorem nodup_of_begs (h : (begs W R).Nodup) : R.Nodup := by
  unfold begs at h
  rw [List.nodup_iff_pairwise_ne, List.pairwise_map] at h
  exact h.imp fun {a b} h => by rintro rfl; exact h rfl
/-- what comes round, or goes from outside to outside -/
theorem Chn.row {z : Option Nat} (h : Chn W R z) {j : Nat} (hj : j < R.length) (hz : (begs W R)[j]? = some z) : RowOk W (R.drop j) := by
  have bl : (begs W R).length = R.length := by unfold begs; simp
  have hjb : j < (begs W R).length := by omega
  refine ⟨fun k hk => h.lt k (List.mem_of_mem_drop hk), (nodup_of_begs h.nd).sublist (List.drop_sublist ..), ?_⟩
  have e1 : begs W (R.drop j) = (begs W R).drop j := by unfold begs; rw [List.map_drop]
  have e2 : ends W (R.drop j) = (ends W R).drop j := by unfold ends; rw [List.map_drop]
  rw [e1, e2, h.ch]
  obtain ⟨_, ez⟩ := List.getElem?_eq_some_iff.mp hz
  rw [List.drop_eq_getElem_cons hjb, ez, ← List.drop_one, List.drop_append_of_le_length (by simp; omega), List.drop_drop, Nat.add_comm 1 j]
  exact (List.perm_append_singleton _ _).symm
theorem Chn.len {z : Option Nat} (hw : IsWeb W) (h : Chn W R z) : R.length ≤ W.gives.length + 1 := by
  have bl : (begs W R).length = R.length := by unfold begs; simp
  have sub : begs W R ⊆ spots W.gives.length := fun o ho => by
    obtain ⟨k, hk, rfl⟩ := List.mem_map.mp ho
    unfold spots
    cases e : (rd W k).b with
    | none => simp
    | some x => simp; exact (hw.rd (h.lt k hk)).2.1 x e
  have p : (begs W R).Perm ((spots W.gives.length).filter fun o => (begs W R).contains o) := (List.perm_ext_iff_of_nodup h.nd (spots_nodup.filter _)).mpr fun o => by
    rw [List.mem_filter, List.contains_iff_mem]
    exact ⟨fun z => ⟨sub z, z⟩, fun z => z.2⟩
  have l1 := p.length_eq
  have l2 := List.length_filter_le (fun o => (begs W R).contains o) (spots W.gives.length)
  rw [spots_len] at l2
  omega
end
end Fn

namespace Fn
open PySem PySem.Spec PyProof.Rows L2 Uv
section
variable {W : Web} {R : List Nat} {f : List Int}
theorem DkA.flat {b : Nat} {cs : List Cel} (h : DkA b cs) : flatC cs = true := by
  obtain ⟨gs, ns, n, rfl, _⟩ := h
  have e : ∀ l : List Int, flats (l.map PyData.int) = true := flats_mapA fun _ => q_flat_i
  simp [flatC, e]
/-- a row as it is drawn -/
def Drawn (W : Web) (f : List Int) (R : List Nat) : Prop := R ≠ [] → RowOk W R ∧ ∀ k ∈ R, at0 f k < (rd W k).r
theorem eq_nilN {l : List Nat} : eqP (.list (l.map natD)) (.list []) = some (.bool l.isEmpty) := by
  rw [eq_nilL (Lay.map (k := 59) fun _ => Lay.int)]
  cases l <;> rfl
theorem at_last {α β : Type} {g : α → β} {l : List α} {x : α} : atI ((l ++ [x]).map g) (-1) = some (g x) := by
  have e0 : (l ++ [x]).map g = l.map g ++ [g x] := by rw [List.map_append]; rfl
  rw [e0]
  have i1 : ixN (l.map g ++ [g x]).length (-1) = some l.length := by
    unfold ixN
    simp
    omega
  unfold atI
  rw [i1]
  simp
theorem cut_nat {ds : List PD} {k : Nat} : Uv.cutD ds (some (k : Int)) none = ds.drop k := by
  unfold Uv.cutD
  rw [HT.sIx_nat, HT.sIx_none]
  by_cases c : k ≤ ds.length
  · rw [Nat.min_eq_left c, List.take_of_length_le (by simp)]
  · rw [Nat.min_eq_right (by omega), List.drop_eq_nil_of_le (Nat.le_refl _), List.drop_eq_nil_of_le (by omega)]
    simp
theorem a_round {b : Nat} {cs : List Cel} {Q : List Cel × List Cel → Prop} (h : DkA b cs) (hb : b + 20 ≤ 2 ^ 40) (hw : IsWeb W) (hf : f.length = W.roads.length) (hq : ∀ (R : List Nat) cs', Drawn W f R → DkA (b + 20) cs' → Q (dats (R.map natD), cs')) : wp (F__law_round_b cs [webD W, .list (f.map PyData.int)]) (tag Q) := by
  have hc := hw.count
  have hh := hw.houses
  have none0 : ∀ cs', DkA (b + 20) cs' → Q ([], cs') := fun cs' d => hq [] cs' (fun z => absurd rfl z) d
  obtain ⟨lit, hlit⟩ : ∃ l, l = (List.range W.roads.length).filter (openB W f) := ⟨_, rfl⟩
  have litm : ∀ k ∈ lit, k < W.roads.length ∧ at0 f k < (rd W k).r := fun k hk => by
    rw [hlit] at hk
    obtain ⟨h1, h2⟩ := List.mem_filter.mp hk
    exact ⟨List.mem_range.mp h1, of_decide_eq_true h2⟩
  have litl : lit.length ≤ 20 := by
    rw [hlit]
    exact Nat.le_trans (List.length_filter_le ..) (by simp; omega)
  unfold F__law_round_b
  refine wp_runV rfl ?_
  unfold X__law_round_b
  refine wp_cut3 (fun R => ∀ (bg : List Nat) (cs : List Cel), bg.length ≤ 20 → (∀ k ∈ bg, k ∈ lit) → DkA (b + 1) cs → wp (R [.own cs, .dat (webD W), .dat (.list (f.map PyData.int)), .dat (.list (lit.map natD)), .dat (.list (bg.map natD)), .un, .un, .un, .un, .un, .un]) (tag (endV (tag Q)))) ?_ fun R hR => ?_
  · -- the row
    intro bg cs bgl bgm d
    simp -implicitDefEqProofs [eq_nilN]
    refine wp_alt (fun c => ?_) (fun c => ?_)
    · simp -implicitDefEqProofs
      exact none0 cs (d.mono (by omega))
    have bn : bg ≠ [] := by
      rintro rfl
      exact nomatch c
    simp -implicitDefEqProofs
    refine a_one d (by omega) bn (by omega) fun k hk cs1 d1 => ?_
    have kl := litm k (bgm k hk)
    have i0 : atI [natD k] 0 = some (natD k) := rfl
    simp -implicitDefEqProofs [i0, atI_road kl.1, roadD]
    refine wp_while (fun m ρ => ∃ (cs : List Cel) (ini : List Nat) (x : Nat) (z7 z8 : Sl), ρ = [.own cs, .dat (webD W), .dat (.list (f.map PyData.int)), .dat (.list (lit.map natD)), .dat (.list (bg.map natD)), .own (dats ((ini ++ [x]).map natD)), .own (dats ((begs W (ini ++ [x])).map endD)), z7, z8, .un, .un] ∧ Chn W (ini ++ [x]) (rd W x).e ∧ (∀ k ∈ ini ++ [x], k ∈ lit) ∧ m = 20 - ini.length ∧ DkA (b + 2 + ini.length) cs) (k := 20) (@fuel_lt kk0 _ (by omega)) ⟨cs1, [], k, _, _, rfl, ⟨by simp, fun j hj => ?_, by simp [begs], by simp [begs, ends]⟩, fun j hj => ?_, rfl, d1⟩ ?_
    · have : j = k := by simpa using hj
      rw [this]; exact kl.1
    · have : j = k := by simpa using hj
      rw [this]; exact bgm k hk
    rintro m ρ ⟨cs, ini, x, z7, z8, rfl, ch, inl, hm, d⟩
    have xl := litm x (inl x (by simp))
    have len := ch.len hw
    have len' : ini.length ≤ 8 := by simp at len; omega
    have bl : (begs W (ini ++ [x])).length = ini.length + 1 := by unfold begs; simp
    obtain ⟨os, hos⟩ : ∃ os, os = begs W (ini ++ [x]) := ⟨_, rfl⟩
    have la := at_last (g := natD) (l := ini) (x := x)
    rw [← hos] at bl
    have ch' := ch
    rw [← hos]
    have eo : os.map endD ++ [PyData.none] = (os ++ [none]).map endD := by rw [List.map_append]; rfl
    obtain ⟨row, hrow⟩ : ∃ r, r = ini ++ [x] := ⟨_, rfl⟩
    have rl : row.length = ini.length + 1 := by rw [hrow]; simp
    rw [← hrow] at la ch inl hos ⊢
    simp -implicitDefEqProofs [la, atI_road xl.1, roadD]
    refine ⟨by omega, ?_⟩
    rw [eo]
    simp -implicitDefEqProofs [notin_endL, -List.contains_eq_mem, -List.map_append]
    have hd : 0 < row.length := by omega
    have a0 : atI (row.map natD) 0 = some (natD row[0]) := atI_map (k := 0) hd
    have h0l := litm row[0] (inl _ (List.getElem_mem hd))
    have os0 : os[0]? = some (rd W row[0]).b := by rw [hos]; unfold begs; rw [List.getElem?_map, List.getElem?_eq_getElem hd]; rfl
    have fin : ∀ j, j < row.length → os[j]? = some (rd W x).e → Q (dats ((row.drop j).map natD), cs) := fun j hj ej => by
      refine hq (row.drop j) cs (fun _ => ⟨ch.row hj (by rw [← hos]; exact ej), fun k hk => (litm k (inl k (List.mem_of_mem_drop hk))).2⟩) (d.mono (by omega))
    refine ⟨fun hE => ?_, fun hN hS => ?_⟩
    · simp -implicitDefEqProofs [la, atI_road xl.1, roadD]
      cases he : (rd W x).e with
      | none =>
        simp -implicitDefEqProofs [endD, a0, atI_road h0l.1, roadD]
        cases hb0 : (rd W row[0]).b with
        | some y =>
          simp -implicitDefEqProofs [endD]
          exact none0 cs (d.mono (by omega))
        | none =>
          have mem : none ∈ os := List.mem_of_getElem? (by rw [os0, hb0])
          have ix := idx_endL mem
          have ix : idxP (.list (os.map endD)) .none = some (natD (os.idxOf none)) := ix
          simp -implicitDefEqProofs [endD, ix, atI]
          have cn := cut_nat (ds := row.map natD) (k := 0)
          have cn : Uv.cutD (row.map natD) (some 0) none = row.map natD := cn
          rw [cn]
          have := fin 0 hd (by rw [os0, hb0, he])
          simpa using this
      | some y =>
        rw [he] at hE
        have mem : some y ∈ os := by
          rw [← List.contains_iff_mem]
          cases hc : os.contains (some y) with
          | true => rfl
          | false => exact nomatch hE hc
        have ix := idx_endL mem
        have ix : idxP (.list (os.map endD)) (natD y) = some (natD (os.idxOf (some y))) := ix
        simp -implicitDefEqProofs [endD, ix, atI]
        rw [cut_nat, ← List.map_drop]
        have lt := List.idxOf_lt_length_iff.mpr mem
        exact fin _ (by omega) (by rw [List.getElem?_eq_getElem lt, List.getElem_idxOf lt, he])
    · obtain ⟨y, he⟩ := Option.isSome_iff_exists.mp hS
      rw [he] at hN
      unfold X__law_round_b_b1
      simp -implicitDefEqProofs [la, atI_road xl.1, roadD, he, endD]
      refine ⟨by omega, by omega, wp_lc (fun k => (rd W k).b == some y) natD (fun k hk => ?_) ?_⟩
      · simp -implicitDefEqProofs [atI_road (litm k hk).1, roadD, eq_end]
      obtain ⟨fu, hfu⟩ : ∃ l, l = lit.filter fun k => (rd W k).b == some y := ⟨_, rfl⟩
      have ful : fu.length ≤ 20 := by rw [hfu]; exact Nat.le_trans (List.length_filter_le ..) litl
      have fum : ∀ k ∈ fu, k ∈ lit ∧ (rd W k).b = some y := fun k hk => by
        rw [hfu] at hk
        obtain ⟨h1, h2⟩ := List.mem_filter.mp hk
        exact ⟨h1, by simpa using h2⟩
      rw [← hfu]
      simp -implicitDefEqProofs [eq_nilN]
      refine wp_alt (fun c => ?_) (fun c => ?_)
      · simp -implicitDefEqProofs
        exact none0 cs (d.mono (by omega))
      · simp -implicitDefEqProofs
        refine a_one d (by omega) (by rintro rfl; exact nomatch c) (by omega) fun w hw' cs2 d2 => ?_
        obtain ⟨w1, w2⟩ := fum w hw'
        simp -implicitDefEqProofs
        have e1 : row.map natD ++ [natD w] = (row ++ [w]).map natD := by rw [List.map_append]; rfl
        have e2 : os.map endD ++ [natD y] = (begs W (row ++ [w])).map endD := by
          have : begs W (row ++ [w]) = os ++ [some y] := by unfold begs; rw [List.map_append, hos, List.map_cons, w2]; rfl
          rw [this, List.map_append]
          rfl
        rw [e1, e2]
        refine ⟨by omega, m - 1, by omega, cs2, row, w, _, _, rfl, ?_, ?_, ?_, ?_⟩
        · refine ch.snoc (litm w w1).1 (by rw [w2, he]) ?_
          rw [he, ← hos]
          intro z
          rw [← List.contains_iff_mem, hN] at z
          exact nomatch z
        · intro j hj
          rcases List.mem_append.mp hj with z | z
          · exact inl j z
          · rw [List.mem_singleton.mp z]; exact w1
        · omega
        · exact d2.mono (by omega)
  simp -implicitDefEqProofs
  refine ⟨in62_nat (by omega), by omega, wp_lc (fun k => openB W f k) natD (fun k hk => ?_) ?_⟩
  · have hk := List.mem_range.mp hk
    simp -implicitDefEqProofs [atI_bears (show k < f.length by omega), atI_road hk, roadD]
    rfl
  have e0 : (fun k => openB W f k) = openB W f := rfl
  rw [e0, ← hlit]
  simp -implicitDefEqProofs
  refine ⟨by omega, wp_lc (fun k => (rd W k).b == none) natD (fun k hk => ?_) ?_⟩
  · have hk := (litm k hk).1
    cases hbk : (rd W k).b with
    | none => simp -implicitDefEqProofs [atI_road hk, roadD, hbk, endD]
    | some x => simp -implicitDefEqProofs [atI_road hk, roadD, hbk, endD]
  obtain ⟨bg, hbg⟩ : ∃ l, l = lit.filter fun k => (rd W k).b == none := ⟨_, rfl⟩
  have bgl : bg.length ≤ 20 := by rw [hbg]; exact Nat.le_trans (List.length_filter_le ..) litl
  have bgm : ∀ k ∈ bg, k ∈ lit := fun k hk => by rw [hbg] at hk; exact (List.mem_filter.mp hk).1
  rw [← hbg]
  simp -implicitDefEqProofs [eq_nilN]
  refine wp_alt (fun c => ?_) (fun c => ?_)
  · simp -implicitDefEqProofs
    exact hR lit cs litl (fun k hk => hk) (h.mono (by omega))
  · simp -implicitDefEqProofs
    refine a_next h (by omega) (by omega) (by omega) fun r cs1 hr d1 => ?_
    simp -implicitDefEqProofs
    refine wp_alt (fun c => ?_) (fun c => ?_)
    · simp -implicitDefEqProofs
      exact hR lit cs1 litl (fun k hk => hk) d1
    · simp -implicitDefEqProofs
      exact hR bg cs1 bgl bgm d1
/-! streams by rows -/
structure Stm (W : Web) (f : List Int) : Prop where
  be : Bears W f
  hi : ∀ k, at0 f k ≤ (rd W k).r
  ev : ∀ h, h < W.gives.length → Calm.sm (giv W h) (at0 f) = Calm.sm (tak W h) (at0 f)
def addR (W : Web) (f : List Int) (R : List Nat) (c : Int) : List Int := (List.range W.roads.length).map fun k => at0 f k + ind R c k
theorem at0_add {c : Int} (hf : f.length = W.roads.length) (hr : ∀ k ∈ R, k < W.roads.length) (k : Nat) : at0 (addR W f R c) k = at0 f k + ind R c k := by
  by_cases h : k < W.roads.length
  · exact at0_range h
  · have e1 : at0 f k = 0 := by simp [at0, hf, h]
    have e2 : ind R c k = 0 := if_neg fun z => h (hr k z)
    rw [e1, e2]
    simp [at0, addR, h]
theorem Stm.add {c : Int} (hw : IsWeb W) (hf : Stm W f) (hr : RowOk W R) (c0 : ∀ k ∈ R, 0 ≤ at0 f k + c ∧ at0 f k + c ≤ (rd W k).r) : Stm W (addR W f R c) := by
  have e := at0_add (c := c) hf.be.len hr.lt
  have sum : ∀ l : List Nat, Calm.sm l (at0 (addR W f R c)) = Calm.sm l (at0 f) + Calm.sm l (ind R c) := fun l => by
    rw [← Calm.sm_add]
    exact Calm.sm_same fun k _ => e k
  have pt : ∀ k, 0 ≤ at0 (addR W f R c) k ∧ at0 (addR W f R c) k ≤ (rd W k).r := fun k => by
    rw [e k]
    unfold ind
    by_cases h : k ∈ R
    · rw [if_pos h]; exact c0 k h
    · rw [if_neg h]
      have h1 := hf.be.at k
      have h2 := hf.hi k
      omega
  refine ⟨⟨by simp [addR], fun x hx => ?_⟩, fun k => (pt k).2, fun h hh => ?_⟩
  · obtain ⟨i, hi, rfl⟩ := List.mem_iff_getElem.mp hx
    rw [← at0_eq hi]
    exact (pt i).1
  · rw [sum, sum, hf.ev h hh, row_even hw hr hh]
end
end Fn

namespace Fn
open PySem PySem.Spec PyProof.Rows L2 Uv
section
variable {W : Web} {R : List Nat} {f : List Int}
theorem unI_ints : ∀ l : List Int, Uv.unI (l.map PyData.int) = some l
  | [] => rfl
  | x :: l => by
    show (Uv.unI (l.map PyData.int)).map _ = _
    rw [unI_ints l]
    rfl
/-- the least of some -/
theorem q_least {α : Type} {g : α → Int} {l : List α} (h : l ≠ []) : ∃ m, (Uv.unI (l.map fun x => PyData.int (g x))).bind minL = some (.int m) ∧ (∀ x ∈ l, m ≤ g x) ∧ ∃ x ∈ l, g x = m := by
  have e : l.map (fun x => PyData.int (g x)) = (l.map g).map PyData.int := by rw [List.map_map]; rfl
  rw [e, unI_ints]
  cases l with
  | nil => exact absurd rfl h
  | cons x xs =>
    refine ⟨leastI (g x) (xs.map g), rfl, fun y hy => @leastI_le kk0 _ _ _ (by rw [← List.map_cons]; exact List.mem_map_of_mem hy), ?_⟩
    have := @leastI_mem kk0 (xs.map g) (g x)
    rw [← List.map_cons] at this
    obtain ⟨y, hy, e⟩ := List.mem_map.mp this
    exact ⟨y, hy, e⟩
theorem nul_stm (hw : IsWeb W) : Stm W ((List.range W.roads.length).map fun _ => (0 : Int)) := by
  have z : ∀ k, at0 ((List.range W.roads.length).map fun _ => (0 : Int)) k = 0 := fun k => by
    by_cases h : k < W.roads.length
    · exact at0_range (f := fun _ => (0 : Int)) h
    · simp [at0, h]
  refine ⟨⟨by simp, fun x hx => ?_⟩, fun k => ?_, fun h _ => ?_⟩
  · obtain ⟨_, _, rfl⟩ := List.mem_map.mp hx
    exact Int.le_refl _
  · rw [z]
    by_cases h : k < W.roads.length
    · exact (hw.rd h).2.2.2.1
    · simp [rd, h]
  · rw [Calm.sm_nul fun k _ => z k, Calm.sm_nul fun k _ => z k]
/-- what is borne, as data -/
def berD (W : Web) (g : Nat → Int) : List PD := (List.range W.roads.length).map fun k => .int (g k)
theorem berD_eq (hf : f.length = W.roads.length) : f.map PyData.int = berD W (at0 f) := ints_range hf
theorem ind_snoc {c : Int} {i : Nat} (hi : i < R.length) (nd : R.Nodup) (k : Nat) : ind (R.take (i + 1)) c k = if k = R[i] then c else ind (R.take i) c k := by
  have tk : R.take (i + 1) = R.take i ++ [R[i]] := by rw [List.take_succ, List.getElem?_eq_getElem hi]; rfl
  unfold ind
  rw [tk]
  by_cases h : k = R[i]
  · rw [if_pos h, if_pos (by rw [h]; exact List.mem_append_right _ (List.mem_singleton.mpr rfl))]
  · rw [if_neg h]
    by_cases h2 : k ∈ R.take i
    · rw [if_pos h2, if_pos (List.mem_append_left _ h2)]
    · rw [if_neg h2, if_neg]
      intro z
      rcases List.mem_append.mp z with z | z
      · exact h2 z
      · exact h (List.mem_singleton.mp z)
theorem ind_fresh {c : Int} {i : Nat} (hi : i < R.length) (nd : R.Nodup) : ind (R.take i) c R[i] = 0 := by
  refine if_neg fun z => ?_
  obtain ⟨j, hj, e⟩ := List.mem_iff_getElem.mp z
  rw [List.getElem_take] at e
  have hj' : j < i := by simp at hj; omega
  have := (List.nodup_iff_pairwise_ne.mp nd)
  exact absurd e (List.pairwise_iff_getElem.mp this j i (by omega) hi hj')
theorem range_setA {f g : Nat → Int} {n r : Nat} {v : Int} (h1 : g r = v) (h2 : ∀ k, k ≠ r → g k = f k) : ((List.range n).map fun k => PyData.int (f k)).set r (.int v) = (List.range n).map fun k => .int (g k) := by
  apply List.ext_getElem
  · simp
  · intro i a b
    rw [List.getElem_set]
    by_cases c : r = i
    · subst c
      rw [if_pos rfl]
      simp [h1]
    · rw [if_neg c]
      simp [h2 i fun z => c z.symm]
theorem a_stream {b s : Nat} {cs : List Cel} {Q : PD × List Cel → Prop} (h : DkA b cs) (hb : b + 1000 ≤ 2 ^ 40) (hw : IsWeb W) (hs : s ≤ 12) (hq : ∀ f cs', Stm W f → DkA (b + 500) cs' → Q (intsD f, cs')) : wp (F__law_stream_f cs [webD W, natD s]) (tag Q) := by
  have hc := hw.count
  unfold F__law_stream_f
  refine wp_runW rfl ?_
  unfold X__law_stream_f
  simp -implicitDefEqProofs
  refine ⟨⟨by omega, by omega⟩, in62_nat (by omega), ?_⟩
  refine wp_forR (fun i ρ => ∃ (cs : List Cel) (f : List Int) (z4 z5 z6 z7 z8 : Sl), ∃ ds : List PD, ρ = [.own cs, .dat (webD W), .dat (natD s), .own (dats ds), z4, z5, z6, z7, z8] ∧ ds = f.map PyData.int ∧ Stm W f ∧ DkA (b + 30 * i) cs) ⟨cs, (List.range W.roads.length).map fun _ => (0 : Int), _, _, _, _, _, _, rfl, ?_, nul_stm hw, h⟩ ?_ ?_
  · have e : ((List.range W.roads.length).map fun _ => (0 : Int)).map PyData.int = List.replicate W.roads.length (.int 0) := by
      rw [List.map_map]
      apply List.ext_getElem
      · simp
      · intro i h1 h2
        simp
    rw [e]
  · rintro i hi ρ ⟨cs, f, z4, z5, z6, z7, z8, _, rfl, rfl, hf, d⟩
    have lf := hf.be.len
    unfold X__law_stream_f_b2
    simp -implicitDefEqProofs
    refine a_round d (by omega) hw lf fun R cs1 dr d1 => ?_
    have fr : flatC (dats (R.map natD)) = true := flatC_dats (flats_mapA (fun _ => q_flat_i) R)
    simp -implicitDefEqProofs [fr, d1.flat, ne_nilN]
    refine wp_alt (fun c => ?_) (fun c => ?_)
    · have rn : R ≠ [] := by
        rintro rfl
        exact nomatch c
      obtain ⟨ro, rm⟩ := dr rn
      obtain ⟨m, em, ml, ⟨x0, hx0, ex0⟩⟩ := q_least (g := fun k => (rd W k).r - at0 f k) rn
      have m1 : 1 ≤ m := by have := rm x0 hx0; omega
      have mx : m ≤ 1000000000000 := by
        have h1 := (hw.rd (ro.lt x0 hx0)).2.2.2.2
        have h2 := hf.be.at x0
        omega
      have rl : R.length ≤ 20 := by
        have p : R.Perm ((List.range W.roads.length).filter fun k => R.contains k) := (List.perm_ext_iff_of_nodup ro.nd (List.nodup_range.filter _)).mpr fun k => by
          rw [List.mem_filter, List.contains_iff_mem, List.mem_range]
          exact ⟨fun z => ⟨ro.lt k z, z⟩, fun z => z.2⟩
        have := List.length_filter_le (fun k => R.contains k) (List.range W.roads.length)
        rw [p.length_eq]
        simp at this ⊢
        omega
      simp -implicitDefEqProofs
      refine ⟨by omega, wp_lcT (fun k => .int ((rd W k).r - at0 f k)) (fun k hk => ?_) ?_⟩
      · have hk := ro.lt k hk
        simp -implicitDefEqProofs [atI_road hk, roadD, atI_bears (show k < f.length by omega)]
      simp -implicitDefEqProofs [em]
      refine a_next d1 (by omega) (by omega) (by omega) fun r cs2 hr d2 => ?_
      simp -implicitDefEqProofs
      have el : [PyData.int 1, .int m, .int (1 + (r : Int))] = ([1, m, 1 + (r : Int)] : List Int).map PyData.int := rfl
      rw [el]
      refine a_pick d2 (by omega) (by simp) (by simp) fun c hc' cs3 d3 => ?_
      have cb : 1 ≤ c ∧ c ≤ m := by simp at hc'; omega
      simp -implicitDefEqProofs
      have st := hf.add (c := c) hw ro fun k hk => by
        have := ml k hk
        have := hf.be.at k
        omega
      refine wp_forM (fun j ρ => ∃ (ds : List PD) (z8 : Sl), ρ = [.own cs3, .dat (webD W), .dat (natD s), .own (dats ds), .dat (natD i), .dat (.list (R.map natD)), .dat (.int m), .dat (.int c), z8] ∧ ds = berD W fun k => at0 f k + ind (R.take j) c k) ⟨_, _, rfl, ?_⟩ ?_ ?_
      · rw [berD_eq lf]
        unfold berD
        refine List.map_congr_left fun k _ => ?_
        simp [ind]
      · rintro j hj ρ ⟨ds, z8, rfl, eds⟩
        obtain ⟨x, ex⟩ : ∃ x, x = R[j] := ⟨_, rfl⟩
        have xn : x < W.roads.length := by rw [ex]; exact ro.lt _ (List.getElem_mem hj)
        have ld : x < ds.length := by rw [eds]; unfold berD; simpa using xn
        have ax : atI ds (x : Int) = some (.int (at0 f x)) := by
          have e0 : ind (R.take j) c x = 0 := by rw [ex]; exact ind_fresh hj ro.nd
          rw [eds]
          unfold berD
          rw [atI_map (by simpa using xn)]
          simp [e0]
        rw [← ex]
        unfold X__law_stream_f_b1
        simp -implicitDefEqProofs [ax]
        rw [ixN_nat' ld]
        simp -implicitDefEqProofs
        rw [datAt_at ld]
        simp -implicitDefEqProofs
        refine ⟨_, _, rfl, ?_⟩
        rw [eds]
        refine range_setA ?_ fun k hk => ?_
        · rw [ind_snoc hj ro.nd, if_pos ex]
        · rw [ind_snoc hj ro.nd, if_neg (by rw [← ex]; exact hk)]
      · rintro ρ ⟨ds, z8, rfl, eds⟩
        rw [List.take_length] at eds
        simp -implicitDefEqProofs
        refine ⟨cs3, addR W f R c, _, _, _, _, _, _, rfl, ?_, st, d3.mono (by omega)⟩
        rw [eds]
        unfold berD addR
        rw [List.map_map]
        rfl
    · simp -implicitDefEqProofs
      exact ⟨cs1, f, _, _, _, _, _, _, rfl, rfl, hf, d1.mono (by omega)⟩
  · rintro ρ ⟨cs, f, z4, z5, z6, z7, z8, _, rfl, rfl, hf, d⟩
    simp -implicitDefEqProofs
    exact hq f cs hf (d.mono (by omega))
end
end Fn

namespace Fn
open PySem PySem.Spec PyProof.Rows L2 Uv
section
variable {W : Web} {R : List Nat} {f : List Int}
def firstL (W : Web) (f : List Int) : List Nat := (doorsOf W 0 ++ List.range W.roads.length).filter fun k => decide (0 < at0 f k)
theorem p_first_bearing (hw : IsWeb W) (hf : f.length = W.roads.length) : F_first_bearing [webD W, .list (f.map PyData.int)] = some (endD (firstL W f).head?) := by
  have hc := hw.count
  have dl : (doorsOf W 0).length ≤ 20 := by
    have : (doorsOf W 0).Perm ((List.range W.roads.length).filter fun k => (doorsOf W 0).contains k) := (List.perm_ext_iff_of_nodup (doors_sorted.imp fun h => by omega) (List.nodup_range.filter _)).mpr fun k => by
      rw [List.mem_filter, List.contains_iff_mem, List.mem_range]
      refine ⟨fun z => ⟨?_, z⟩, fun z => z.2⟩
      obtain ⟨x, h1, _⟩ := mem_doors.mp z
      exact (List.getElem?_eq_some_iff.mp h1).1
    have l2 := List.length_filter_le (fun k => (doorsOf W 0).contains k) (List.range W.roads.length)
    rw [this.length_eq]
    simp at l2 ⊢
    omega
  have dlt : ∀ k ∈ doorsOf W 0 ++ List.range W.roads.length, k < W.roads.length := fun k hk => by
    rcases List.mem_append.mp hk with z | z
    · obtain ⟨x, h1, _⟩ := mem_doors.mp z
      exact (List.getElem?_eq_some_iff.mp h1).1
    · exact List.mem_range.mp z
  refine eq_of_wp ?_
  unfold F_first_bearing
  refine wp_runP rfl ?_
  unfold X_first_bearing
  simp -implicitDefEqProofs [p_in_doors hw, hf]
  have e : (doorsOf W 0).map natD ++ (List.range W.roads.length).map natD = (doorsOf W 0 ++ List.range W.roads.length).map natD := by rw [List.map_append]
  refine ⟨⟨by omega, by omega⟩, by omega, by omega, ?_⟩
  rw [e]
  refine wp_lc (fun k => decide (0 < at0 f k)) natD (fun k hk => ?_) ?_
  · have := dlt k hk
    simp -implicitDefEqProofs [atI_bears (show k < f.length by omega)]
  have e2 : (doorsOf W 0 ++ List.range W.roads.length).filter (fun k => decide (0 < at0 f k)) = firstL W f := rfl
  rw [e2]
  cases hfl : firstL W f with
  | nil => simp -implicitDefEqProofs [endD]
  | cons x xs => simp -implicitDefEqProofs [endD]
theorem cut_take {ds : List PD} {k : Nat} : Uv.cutD ds none (some (k : Int)) = ds.take k := by
  unfold Uv.cutD
  rw [HT.sIx_nat, HT.sIx_none]
  by_cases c : k ≤ ds.length
  · rw [Nat.min_eq_left c]; simp
  · rw [Nat.min_eq_right (by omega)]
    have : ds.take k = ds := List.take_of_length_le (by omega)
    rw [this]
    simp
theorem p_from_least (hr : R ≠ []) (hl : R.length ≤ 1000) : ∃ a, a < R.length ∧ F_from_least [.list (R.map natD)] = some (natsD (R.drop a ++ R.take a)) := by
  obtain ⟨m, em, ml, ⟨x, hx, ex⟩⟩ := q_least (g := fun (k : Nat) => (k : Int)) hr
  subst ex
  refine ⟨R.idxOf x, List.idxOf_lt_length_iff.mpr hx, ?_⟩
  have ix := n_idxL hx
  refine eq_of_wp ?_
  unfold F_from_least
  refine wp_runP rfl ?_
  unfold X_from_least
  have em : (Uv.unI (R.map natD)).bind minL = some (natD x) := em
  simp -implicitDefEqProofs [em, ix, cut_nat, cut_take]
  refine ⟨by omega, ?_⟩
  unfold natsD
  rw [List.map_append, List.map_drop, List.map_take]
theorem RowOk.perm {S : List Nat} (h : RowOk W R) (p : S.Perm R) : RowOk W S :=
  ⟨fun k hk => h.lt k (p.mem_iff.mp hk), p.nodup_iff.mpr h.nd, ((p.map _).trans h.bal).trans (p.map _).symm⟩
theorem mem_inD {k : Nat} : k ∈ doorsOf W 0 ↔ k < W.roads.length ∧ (rd W k).b = none := by
  rw [mem_doors]
  constructor
  · rintro ⟨x, h1, h2⟩
    obtain ⟨h3, h4⟩ := List.getElem?_eq_some_iff.mp h1
    exact ⟨h3, by rw [rd_eq h3, h4]; exact h2⟩
  · rintro ⟨h1, h2⟩
    exact ⟨_, List.getElem?_eq_getElem h1, by rw [← rd_eq h1]; exact h2⟩
/-- where nothing comes in nothing goes out -/
theorem out_none (hw : IsWeb W) (hf : Stm W f) (h : ∀ k, k < W.roads.length → (rd W k).b = none → at0 f k = 0) {x : Nat} (hx : x < W.roads.length) (he : (rd W x).e = none) : at0 f x = 0 := by
  have ok := net_ok hw
  have s1 := Calm.sides ok.gm ok.gn ok.bh (fun _ => True) (fun k => (rd W k).b ≠ none) (fun k => by
    show (rd W k).b ≠ none ↔ ∃ h, (rd W k).b = some h ∧ True
    cases (rd W k).b <;> simp) (at0 f)
  have s2 := Calm.sides ok.tm ok.tn ok.eh (fun _ => True) (fun k => (rd W k).e ≠ none) (fun k => by
    show (rd W k).e ≠ none ↔ ∃ h, (rd W k).e = some h ∧ True
    cases (rd W k).e <;> simp) (at0 f)
  have eq : Calm.sm (List.range W.gives.length) (fun h => Calm.sm (giv W h) (at0 f)) = Calm.sm (List.range W.gives.length) fun h => Calm.sm (tak W h) (at0 f) := Calm.sm_same fun h hh => hf.ev h (List.mem_range.mp hh)
  have n1 : Calm.sm (List.range W.roads.length) (at0 f) = Calm.sm (List.range W.gives.length) (fun h => Calm.sm (giv W h) (at0 f)) := by
    have s1 : Calm.sm (List.range W.roads.length) _ = Calm.sm (List.range W.gives.length) _ := s1
    simp only [if_true] at s1
    rw [show Calm.sm (List.range W.gives.length) (fun h => Calm.sm (giv W h) (at0 f)) = Calm.sm (List.range W.gives.length) (fun h => Calm.sm ((netOf W).g h) (at0 f)) from rfl, ← s1]
    refine Calm.sm_same fun k hk => ?_
    by_cases c : (rd W k).b = none
    · rw [if_neg (by simpa using c)]
      exact h k (List.mem_range.mp hk) c
    · rw [if_pos c]
  have n2 : Calm.sm (List.range W.roads.length) (fun k => if (rd W k).e = none then at0 f k else 0) = 0 := by
    have s2 : Calm.sm (List.range W.roads.length) _ = Calm.sm (List.range W.gives.length) _ := s2
    simp only [if_true] at s2
    have s3 : Calm.sm (List.range W.roads.length) (fun k => if (rd W k).e ≠ none then at0 f k else 0) = Calm.sm (List.range W.gives.length) (fun h => Calm.sm (tak W h) (at0 f)) := by
      rw [show Calm.sm (List.range W.gives.length) (fun h => Calm.sm (tak W h) (at0 f)) = Calm.sm (List.range W.gives.length) (fun h => Calm.sm ((netOf W).t h) (at0 f)) from rfl, ← s2]
      refine Calm.sm_same fun k _ => ?_
      by_cases c : (rd W k).e = none
      · rw [if_neg (by simpa using c), if_neg (by simpa using c)]
      · rw [if_pos c, if_pos c]
    have s4 : Calm.sm (List.range W.roads.length) (at0 f) = Calm.sm (List.range W.roads.length) (fun k => if (rd W k).e ≠ none then at0 f k else 0) + Calm.sm (List.range W.roads.length) (fun k => if (rd W k).e = none then at0 f k else 0) := by
      rw [← Calm.sm_add]
      refine Calm.sm_same fun k _ => ?_
      by_cases c : (rd W k).e = none
      · rw [if_neg (by simpa using c), if_pos c]; omega
      · rw [if_pos c, if_neg c]; omega
    omega
  have z := Calm.sm_zero (fun k _ => by
    have := hf.be.at k
    show 0 ≤ if (rd W k).e = none then at0 f k else 0
    split <;> omega) (by omega) x (List.mem_range.mpr hx)
  rw [if_pos he] at z
  exact z
/-- a row of a bundle -/
structure Bun (W : Web) (R : List Nat) : Prop where
  ok : RowOk W R
  ne : R ≠ []
  inn : cnt none 1 (begs W R) = if (rd W (R.headD 0)).b = none then 1 else 0
theorem cnt_none0 : ∀ {l : List (Option Nat)}, none ∉ l → cnt none 1 l = 0
  | [], _ => rfl
  | x :: l, h => by
    have h1 : x ≠ none := fun z => h (by rw [z]; exact List.mem_cons_self ..)
    have h2 := cnt_none0 (l := l) fun z => h (List.mem_cons_of_mem _ z)
    unfold cnt at h2 ⊢
    rw [List.map_cons, List.sum_cons, h2, if_neg h1]
    rfl
theorem Bun.of (ok : RowOk W R) (ne : R ≠ []) (h : none ∉ begs W R) : Bun W R := by
  refine ⟨ok, ne, ?_⟩
  rw [cnt_none0 h, if_neg]
  intro z
  obtain ⟨x, xs, rfl⟩ := List.exists_cons_of_ne_nil ne
  exact h (by rw [← z]; exact List.mem_cons_self ..)
theorem p_way (hw : IsWeb W) (hf : Stm W f) {k0 : Nat} (hk : k0 < W.roads.length) (h0 : 0 < at0 f k0) (hd : (rd W k0).b = none ∨ ∀ k, k < W.roads.length → (rd W k).b = none → at0 f k = 0) {Q : PD → Prop} (hq : ∀ R, Bun W R → (∀ k ∈ R, 0 < at0 f k) → Q (natsD R)) : wp (F_way_or_ring [webD W, .list (f.map PyData.int), natD k0]) (tag Q) := by
  have hh := hw.houses
  have lf := hf.be.len
  unfold F_way_or_ring
  refine wp_runP rfl ?_
  unfold X_way_or_ring
  simp -implicitDefEqProofs [atI_road hk, roadD]
  refine wp_while (fun m ρ => ∃ (ini : List Nat) (x : Nat) (z8 z9 : Sl) (ds : List PD), ρ = [.dat (webD W), .dat (.list (f.map PyData.int)), .dat (natD k0), .dat (.tuple (W.roads.map roadD)), .dat (.tuple (W.gives.map natsD)), .dat (.tuple (W.takes.map natsD)), .own (dats ds), .dat (endD (rd W x).e), z8, z9] ∧ ds = (ini ++ [x]).map natD ∧ Chn W (ini ++ [x]) (rd W x).e ∧ none ∉ (begs W (ini ++ [x])).tail ∧ (∀ k ∈ ini ++ [x], 0 < at0 f k) ∧ (ini ++ [x])[0]? = some k0 ∧ m = 20 - ini.length) (k := 20) (@fuel_lt kk0 _ (by omega)) ⟨[], k0, _, _, _, rfl, rfl, ⟨by simp, fun j hj => ?_, by simp [begs], by simp [begs, ends]⟩, by simp [begs], fun j hj => ?_, rfl, rfl⟩ ?_
  · have : j = k0 := by simpa using hj
    rw [this]; exact hk
  · have : j = k0 := by simpa using hj
    rw [this]; exact h0
  rintro m ρ ⟨ini, x, z8, z9, _, rfl, rfl, ch, nt, pos, h00, hm⟩
  have xn := ch.lt x (by simp)
  have xp := pos x (by simp)
  have len := ch.len hw
  have len' : ini.length ≤ 8 := by simp at len; omega
  obtain ⟨row, hrow⟩ : ∃ r, r = ini ++ [x] := ⟨_, rfl⟩
  have rl : row.length = ini.length + 1 := by rw [hrow]; simp
  have la := at_last (g := natD) (l := ini) (x := x)
  rw [← hrow] at la ch nt pos h00 ⊢
  cases he : (rd W x).e with
  | none =>
    simp -implicitDefEqProofs [endD]
    have b0 : (rd W k0).b = none := by
      rcases hd with z | z
      · exact z
      · have := out_none hw hf z xn he
        omega
    obtain ⟨t, ht⟩ : ∃ t, row = k0 :: t := by
      cases row with
      | nil => simp at rl
      | cons y t => simp at h00; exact ⟨t, by rw [h00]⟩
    have eb : begs W row = none :: begs W t := by rw [ht]; unfold begs; rw [List.map_cons, b0]
    rw [he] at ch
    have ro := ch.row (j := 0) (by omega) (by rw [eb]; rfl)
    rw [List.drop_zero] at ro
    refine hq row ⟨ro, ch.ne, ?_⟩ pos
    rw [eb] at nt
    rw [ht] at eb ⊢
    rw [eb]
    have nt : none ∉ begs W t := nt
    have c0 := cnt_none0 nt
    show cnt none 1 (none :: begs W t) = if (rd W k0).b = none then 1 else 0
    rw [if_pos b0]
    unfold cnt at c0 ⊢
    rw [List.map_cons, List.sum_cons, c0, if_pos rfl]
    rfl
  | some y =>
    have hy := (hw.rd xn).2.2.1 y he
    obtain ⟨os, hos⟩ : ∃ os, os = begs W row := ⟨_, rfl⟩
    have ol : os.length = row.length := by rw [hos]; unfold begs; simp
    simp -implicitDefEqProofs [endD]
    unfold X_way_or_ring_b1
    simp -implicitDefEqProofs
    refine ⟨by omega, wp_lcT (fun k => endD (rd W k).b) (fun k hk => ?_) ?_⟩
    · simp -implicitDefEqProofs [atI_road (ch.lt k hk), roadD]
    have eos : row.map (fun k => endD (rd W k).b) = os.map endD := by rw [hos]; unfold begs; rw [List.map_map]; rfl
    rw [eos]
    have fl : flats (os.map endD) = true := flats_mapA (fun o => by cases o <;> simp [endD]) os
    simp -implicitDefEqProofs [fl, in_ends, -List.contains_eq_mem]
    refine wp_alt (fun c => ?_) (fun c => ?_)
    · have mem : some y ∈ os := List.contains_iff_mem.mp c
      have ix := idx_endL mem
      have ix : idxP (.list (os.map endD)) (natD y) = some (natD (os.idxOf (some y))) := ix
      have lt := List.idxOf_lt_length_iff.mpr mem
      obtain ⟨j, hj⟩ : ∃ j, j = os.idxOf (some y) := ⟨_, rfl⟩
      rw [← hj] at ix lt
      have oj : os[j]? = some (some y) := by rw [hj, List.getElem?_eq_getElem (by rw [← hj]; exact lt), List.getElem_idxOf]
      have ro := ch.row (j := j) (by omega) (by rw [← hos, he]; exact oj)
      have rne : row.drop j ≠ [] := by
        intro z
        have : (row.drop j).length = 0 := by rw [z]; rfl
        simp at this
        omega
      obtain ⟨a, ha, ea⟩ := p_from_least (R := row.drop j) rne (by simp; omega)
      simp -implicitDefEqProofs [ix, cut_nat]
      rw [← List.map_drop, ea]
      simp -implicitDefEqProofs
      have p : ((row.drop j).drop a ++ (row.drop j).take a).Perm (row.drop j) := by
        have := (List.perm_append_comm (l₁ := (row.drop j).drop a) (l₂ := (row.drop j).take a))
        rw [List.take_append_drop] at this
        exact this
      have nn : none ∉ begs W (row.drop j) := by
        have e1 : begs W (row.drop j) = os.drop j := by rw [hos]; unfold begs; rw [List.map_drop]
        rw [e1]
        intro z
        rw [List.drop_eq_getElem_cons lt] at z
        rcases List.mem_cons.mp z with z | z
        · have := (List.getElem?_eq_some_iff.mp oj).2
          rw [this] at z
          exact nomatch z
        · rw [← hos, ← List.drop_one] at nt
          exact nt (List.mem_of_mem_drop (i := j) (by rw [List.drop_drop, Nat.add_comm 1 j]; exact z))
      have := hq _ (Bun.of (ro.perm p) (by intro z; rw [z] at p; exact rne p.symm.eq_nil) (fun z => nn ((p.map _).mem_iff.mp z))) fun k hk => pos k (List.mem_of_mem_drop (p.mem_iff.mp hk))
      simpa using this
    · -- one road further
      have inn : 0 < Calm.sm (tak W y) (at0 f) := by
        apply Classical.byContradiction
        intro z
        have := Calm.sm_zero (fun k _ => hf.be.at k) (by omega) x ((hw.mem_tak hy).mpr ⟨xn, he⟩)
        omega
      rw [← hf.ev y hy] at inn
      obtain ⟨r, hr, rp⟩ := Calm.sm_pos (fun k _ => hf.be.at k) inn
      obtain ⟨fu, hfu⟩ : ∃ l, l = (giv W y).filter fun k => decide (0 < at0 f k) := ⟨_, rfl⟩
      have fne : fu ≠ [] := by
        intro z
        have : r ∈ fu := by rw [hfu]; exact List.mem_filter.mpr ⟨hr, decide_eq_true rp⟩
        rw [z] at this
        exact nomatch this
      obtain ⟨w, ws, hws⟩ := List.exists_cons_of_ne_nil fne
      have wm : w ∈ giv W y ∧ 0 < at0 f w := by
        have : w ∈ fu := by rw [hws]; exact List.mem_cons_self ..
        rw [hfu] at this
        obtain ⟨h1, h2⟩ := List.mem_filter.mp this
        exact ⟨h1, of_decide_eq_true h2⟩
      obtain ⟨wn, wb⟩ := (hw.mem_giv hy).mp wm.1
      have lg := hw.len_giv hy
      simp -implicitDefEqProofs [atI_giv hy]
      refine ⟨by omega, wp_lc (fun k => decide (0 < at0 f k)) natD (fun k hk => ?_) ?_⟩
      · have := ((hw.mem_giv hy).mp hk).1
        simp -implicitDefEqProofs [atI_bears (show k < f.length by omega)]
      rw [← hfu, hws]
      have a0 : atI (natD w :: ws.map natD) 0 = some (natD w) := atI_at (k := 0) (by simp)
      simp -implicitDefEqProofs [a0]
      have e1 : row.map natD ++ [natD w] = (row ++ [w]).map natD := by rw [List.map_append]; rfl
      rw [e1]
      have lw := at_last (g := natD) (l := row) (x := w)
      simp -implicitDefEqProofs [lw, atI_road wn, roadD, -List.map_append]
      refine ⟨by omega, m - 1, by omega, row, w, _, _, _, rfl, rfl, ?_, ?_, ?_, ?_, by omega⟩
      · refine ch.snoc wn (by rw [wb, he]) ?_
        rw [he, ← hos]
        intro z
        rw [← List.contains_iff_mem, c] at z
        exact nomatch z
      · have eb : begs W (row ++ [w]) = os ++ [some y] := by unfold begs; rw [List.map_append, hos, List.map_cons, wb]; rfl
        rw [eb, List.tail_append_of_ne_nil (by intro z; rw [z] at ol; simp at ol; omega)]
        intro z
        rcases List.mem_append.mp z with z | z
        · rw [← hos] at nt; exact nt z
        · simp at z
      · intro k hk
        rcases List.mem_append.mp hk with z | z
        · exact pos k z
        · rw [List.mem_singleton.mp z]; exact wm.2
      · rw [List.getElem?_append_left (by omega)]
        exact h00
end
end Fn

namespace Fn
open PySem PySem.Spec PyProof.Rows L2 Uv
section
variable {W : Web} {R : List Nat} {f g : List Int}
def rowD (p : List Nat × Int) : PD := .tuple [natsD p.1, .int p.2]
def tot (rows : List (List Nat × Int)) (k : Nat) : Int := (rows.map fun p => ind p.1 p.2 k).sum
theorem tot_snoc {rows : List (List Nat × Int)} {p : List Nat × Int} {k : Nat} : tot (rows ++ [p]) k = tot rows k + ind p.1 p.2 k := by
  unfold tot
  rw [List.map_append, List.sum_append]
  simp
def posN (W : Web) (g : List Int) : Nat := ((List.range W.roads.length).filter fun k => decide (0 < at0 g k)).length
theorem first_door (hm : (firstL W g).head? = some R.length → True) {k0 : Nat} (h : (firstL W g).head? = some k0) : k0 < W.roads.length ∧ 0 < at0 g k0 ∧ ((rd W k0).b = none ∨ ∀ k, k < W.roads.length → (rd W k).b = none → ¬ 0 < at0 g k) := by
  have mem : k0 ∈ firstL W g := List.mem_of_mem_head? h
  have mem' := mem
  unfold firstL at mem'
  obtain ⟨h1, h2⟩ := List.mem_filter.mp mem'
  refine ⟨?_, of_decide_eq_true h2, ?_⟩
  · rcases List.mem_append.mp h1 with z | z
    · exact (mem_inD.mp z).1
    · exact List.mem_range.mp z
  · unfold firstL at h
    rw [List.filter_append] at h
    cases hd : (doorsOf W 0).filter fun k => decide (0 < at0 g k) with
    | nil =>
      right
      intro k hk hb z
      have : k ∈ (doorsOf W 0).filter fun k => decide (0 < at0 g k) := List.mem_filter.mpr ⟨mem_inD.mpr ⟨hk, hb⟩, decide_eq_true z⟩
      rw [hd] at this
      exact nomatch this
    | cons x xs =>
      left
      rw [hd] at h
      have : x = k0 := by simpa using h
      have hx : x ∈ (doorsOf W 0).filter fun k => decide (0 < at0 g k) := by rw [hd]; exact List.mem_cons_self ..
      rw [← this]
      exact (mem_inD.mp (List.mem_filter.mp hx).1).2
theorem first_nil (hg : Stm W g) (h : (firstL W g).head? = none) (k : Nat) : at0 g k = 0 := by
  have z := hg.be.at k
  by_cases hk : k < W.roads.length
  · apply Classical.byContradiction
    intro y
    have : k ∈ firstL W g := List.mem_filter.mpr ⟨List.mem_append_right _ (List.mem_range.mpr hk), decide_eq_true (by omega)⟩
    have e : firstL W g = [] := by
      cases hf : firstL W g with
      | nil => rfl
      | cons x xs => rw [hf] at h; exact nomatch h
    rw [e] at this
    exact nomatch this
  · have := hg.be.len
    simp [at0, this, hk]
theorem pos_less (hr : ∀ k ∈ R, k < W.roads.length) {m : Int} (hm : 1 ≤ m) (hg : g.length = W.roads.length) {x : Nat} (hx : x ∈ R) (ex : at0 g x = m) : posN W (addR W g R (-m)) < posN W g := by
  have e := at0_add (c := -m) hg hr
  have imp : ∀ k, 0 < at0 (addR W g R (-m)) k → 0 < at0 g k := fun k z => by
    rw [e k] at z
    unfold ind at z
    split at z <;> omega
  unfold posN
  have ef : (List.range W.roads.length).filter (fun k => decide (0 < at0 (addR W g R (-m)) k)) = ((List.range W.roads.length).filter fun k => decide (0 < at0 g k)).filter fun k => decide (0 < at0 (addR W g R (-m)) k) := by
    rw [List.filter_filter]
    refine List.filter_congr fun k _ => ?_
    cases h : decide (0 < at0 (addR W g R (-m)) k) with
    | false => rfl
    | true => rw [decide_eq_true (imp k (of_decide_eq_true h))]; rfl
  rw [ef]
  refine List.length_filter_lt_length_iff_exists.mpr ⟨x, List.mem_filter.mpr ⟨List.mem_range.mpr (hr x hx), decide_eq_true (by omega)⟩, ?_⟩
  rw [decide_eq_true_iff, e x]
  unfold ind
  rw [if_pos hx]
  omega
theorem row_len (hr : RowOk W R) (hw : IsWeb W) : R.length ≤ 20 := by
  have p : R.Perm ((List.range W.roads.length).filter fun k => R.contains k) := (List.perm_ext_iff_of_nodup hr.nd (List.nodup_range.filter _)).mpr fun k => by
    rw [List.mem_filter, List.contains_iff_mem, List.mem_range]
    exact ⟨fun z => ⟨hr.lt k z, z⟩, fun z => z.2⟩
  have := List.length_filter_le (fun k => R.contains k) (List.range W.roads.length)
  rw [p.length_eq]
  have := hw.count
  simp at *
  omega
theorem p_bundle (hw : IsWeb W) (hf : Stm W f) {Q : PD → Prop} (hq : ∀ rows : List (List Nat × Int), rows.length ≤ 20 → (∀ p ∈ rows, Bun W p.1 ∧ 1 ≤ p.2) → (∀ k, tot rows k = at0 f k) → Q (.tuple (rows.map rowD))) : wp (F_bundle [webD W, intsD f]) (tag Q) := by
  have hc := hw.count
  unfold F_bundle
  refine wp_runP rfl ?_
  unfold X_bundle
  have ll : listP (intsD f) = some (.list (f.map PyData.int)) := rfl
  have fe : ∀ o : Option Nat, flat (endD o) = true := fun o => by cases o <;> simp [endD]
  simp -implicitDefEqProofs [ll, p_first_bearing hw hf.be.len, fe]
  refine wp_while (fun m ρ => ∃ (g : List Int) (rows : List (List Nat × Int)) (z5 z6 z7 : Sl) (dg dr : List PD), ρ = [.dat (webD W), .dat (intsD f), .own (dats dg), .own (dats dr), .dat (endD (firstL W g).head?), z5, z6, z7] ∧ dg = g.map PyData.int ∧ dr = rows.map rowD ∧ Stm W g ∧ (∀ p ∈ rows, Bun W p.1 ∧ 1 ≤ p.2) ∧ (∀ k, tot rows k + at0 g k = at0 f k) ∧ m = posN W g ∧ rows.length + m ≤ 20) (k := posN W f) (@fuel_lt kk0 _ ?_) ⟨f, [], _, _, _, _, _, rfl, rfl, rfl, hf, by simp, by simp [tot], rfl, ?_⟩ ?_
  · have := List.length_filter_le (fun k => decide (0 < at0 f k)) (List.range W.roads.length)
    unfold posN
    simp at this ⊢
    omega
  · have := List.length_filter_le (fun k => decide (0 < at0 f k)) (List.range W.roads.length)
    unfold posN
    simp at this ⊢
    omega
  rintro m ρ ⟨g, rows, z5, z6, z7, _, _, rfl, rfl, rfl, hg, rok, ht, hm, rm⟩
  have lg := hg.be.len
  cases hk0 : (firstL W g).head? with
  | none =>
    simp -implicitDefEqProofs [endD]
    have := hq rows (by omega) rok fun k => by have := ht k; rw [first_nil hg hk0 k] at this; omega
    exact this
  | some k0 =>
    obtain ⟨kn, kp, kd⟩ := first_door (R := []) (fun _ => trivial) hk0
    simp -implicitDefEqProofs [endD]
    unfold X_bundle_b2
    simp -implicitDefEqProofs
    refine p_way hw hg kn kp (kd.imp_right fun z k hk hb => by have := z k hk hb; have := hg.be.at k; omega) fun R bR pR => ?_
    have rl := row_len bR.ok hw
    have fR : flat (natsD R) = true := by unfold natsD; rw [q_flat_t]; exact flats_mapA (fun _ => q_flat_i) R
    obtain ⟨c, ec, cl, ⟨x0, hx0, ex0⟩⟩ := q_least (g := fun k => at0 g k) bR.ne
    have c1 : 1 ≤ c := by have := pR x0 hx0; omega
    simp -implicitDefEqProofs [fR]
    refine ⟨by omega, wp_lcT (fun k => .int (at0 g k)) (fun k hk => ?_) ?_⟩
    · have := bR.ok.lt k hk
      simp -implicitDefEqProofs [atI_bears (show k < g.length by omega)]
    simp -implicitDefEqProofs [ec]
    have pl := pos_less bR.ok.lt c1 lg hx0 ex0
    have st := hg.add (c := -c) hw bR.ok fun k hk => by
      have := cl k hk
      have := hg.hi k
      have := hg.be.at k
      omega
    obtain ⟨rows2, hr2⟩ : ∃ r, r = rows ++ [(R, c)] := ⟨_, rfl⟩
    have e1 : rows.map rowD ++ [.tuple [natsD R, .int c]] = rows2.map rowD := by rw [hr2, List.map_append]; rfl
    rw [e1]
    refine ⟨by omega, ?_⟩
    refine wp_forM (fun j ρ => ∃ (ds : List PD) (z7 : Sl), ρ = [.dat (webD W), .dat (intsD f), .own (dats ds), .own (dats (rows2.map rowD)), .dat (natD k0), .dat (natsD R), .dat (.int c), z7] ∧ ds = berD W fun k => at0 g k + ind (R.take j) (-c) k) ⟨_, _, rfl, ?_⟩ ?_ ?_
    · rw [berD_eq lg]
      unfold berD
      refine List.map_congr_left fun k _ => ?_
      simp [ind]
    · rintro j hj ρ ⟨ds, z7, rfl, eds⟩
      obtain ⟨x, ex⟩ : ∃ x, x = R[j] := ⟨_, rfl⟩
      have xn : x < W.roads.length := by rw [ex]; exact bR.ok.lt _ (List.getElem_mem hj)
      have ld : x < ds.length := by rw [eds]; unfold berD; simpa using xn
      have dx : ds[x] = .int (at0 g x) := by
        have e0 : ind (R.take j) (-c) x = 0 := by rw [ex]; exact ind_fresh hj bR.ok.nd
        simp [eds, berD, e0]
      rw [← ex]
      unfold X_bundle_b1
      simp -implicitDefEqProofs
      rw [ixN_nat' ld]
      simp -implicitDefEqProofs
      rw [datAt_at ld, dx]
      simp -implicitDefEqProofs
      refine ⟨_, _, rfl, ?_⟩
      rw [eds]
      refine range_setA ?_ fun k hk => ?_
      · rw [ind_snoc hj bR.ok.nd, if_pos ex]
        omega
      · rw [ind_snoc hj bR.ok.nd, if_neg (by rw [← ex]; exact hk)]
    · rintro ρ ⟨ds, z7, rfl, eds⟩
      rw [List.take_length] at eds
      have eg : ds = (addR W g R (-c)).map PyData.int := by
        rw [eds]
        unfold berD addR
        rw [List.map_map]
        rfl
      have pf := p_first_bearing (f := addR W g R (-c)) hw st.be.len
      rw [← eg] at pf
      simp -implicitDefEqProofs [pf, fe]
      refine ⟨posN W (addR W g R (-c)), by omega, addR W g R (-c), rows2, _, _, _, _, _, rfl, eg, rfl, st, ?_, ?_, rfl, by rw [hr2]; simp; omega⟩
      · intro p hp
        rw [hr2] at hp
        rcases List.mem_append.mp hp with z | z
        · exact rok p z
        · rw [List.mem_singleton.mp z]; exact ⟨bR, c1⟩
      · intro k
        rw [hr2, tot_snoc, at0_add lg bR.ok.lt]
        have := ht k
        show tot rows k + ind R c k + (at0 g k + ind R (-c) k) = _
        unfold ind
        split <;> omega
theorem p_worth (hw : IsWeb W) (hf : f.length = W.roads.length) : F_worth [webD W, intsD f] = some (.int (Calm.sm (doorsOf W 0) (at0 f))) := by
  have hc := hw.count
  have b := p_borne (f := f) (l := doorsOf W 0) (fun j hj => by rw [hf]; exact (mem_inD.mp hj).1) (by
    have : (doorsOf W 0).length ≤ W.roads.length := by
      have p : (doorsOf W 0).Perm ((List.range W.roads.length).filter fun k => (doorsOf W 0).contains k) := (List.perm_ext_iff_of_nodup (doors_sorted.imp fun h => by omega) (List.nodup_range.filter _)).mpr fun k => by
        rw [List.mem_filter, List.contains_iff_mem, List.mem_range]
        exact ⟨fun z => ⟨(mem_inD.mp z).1, z⟩, fun z => z.2⟩
      have l2 := List.length_filter_le (fun k => (doorsOf W 0).contains k) (List.range W.roads.length)
      rw [p.length_eq]
      simp at l2 ⊢
      omega
    omega)
  refine eq_of_wp ?_
  unfold F_worth
  refine wp_runP rfl ?_
  unfold X_worth
  simp -implicitDefEqProofs [p_in_doors hw, b]
  rfl
end
end Fn

namespace Fn
open PySem PySem.Spec PyProof.Rows L2 Uv
section
variable {W : Web} {f : List Int}
theorem p_formA (hf : Bears W f) (hw : IsWeb W) : F_is_form [intsD f, natD W.roads.length] = some (.bool true) := by
  have hc := hw.count
  have e1 : F_is_tuple_of [intsD f, natD W.roads.length, natD W.roads.length] = some (.bool true) := by
    show F_is_tuple_of [.tuple (f.map PyData.int), .int _, .int _] = _
    rw [p_is_tuple_of, List.length_map, hf.len]
    simp
  refine eq_of_wp ?_
  unfold F_is_form
  refine wp_runP rfl ?_
  unfold X_is_form
  simp -implicitDefEqProofs [e1]
  have := hf.len
  refine ⟨by omega, wp_lcT (fun i => .bool (decide (0 ≤ i))) (fun i hi => ?_) ?_⟩
  · simp -implicitDefEqProofs
  simp -implicitDefEqProofs [q_all]
  exact hf.nn
theorem p_faultA (hw : IsWeb W) (hf : Bears W f) (hi : ∀ k, at0 f k ≤ (rd W k).r) (he : evenB W f = true) : F_streamfault [webD W, intsD f] = some .none := by
  have hc := hw.count
  have hh := hw.houses
  have lf := hf.len
  refine eq_of_wp ?_
  unfold F_streamfault
  refine wp_runP rfl ?_
  unfold X_streamfault
  simp -implicitDefEqProofs [p_formA hf hw]
  refine wp_forE (fun k ρ => ∃ (z5 z6 z7 z8 : Sl), ρ = [.dat (webD W), .dat (intsD f), .dat (.tuple (W.roads.map roadD)), .dat (.tuple (W.gives.map natsD)), .dat (.tuple (W.takes.map natsD)), z5, z6, z7, z8]) ⟨_, _, _, _, rfl⟩ ?_ ?_
  · rintro k hk ρ ⟨z5, z6, z7, z8, rfl⟩
    have hk' : k < W.roads.length := by omega
    have := hi k
    rw [at0_eq hk] at this
    unfold X_streamfault_b1
    simp -implicitDefEqProofs [atI_road hk', roadD]
    rw [show decide ((rd W k).r < f[k]) = false from decide_eq_false (by omega)]
    simp -implicitDefEqProofs
    exact ⟨_, _, _, _, rfl⟩
  rintro ρ ⟨z5, z6, z7, z8, rfl⟩
  simp -implicitDefEqProofs
  refine wp_forE (fun k ρ => ∃ (z5 z6 z7 z8 : Sl), ρ = [.dat (webD W), .dat (intsD f), .dat (.tuple (W.roads.map roadD)), .dat (.tuple (W.gives.map natsD)), .dat (.tuple (W.takes.map natsD)), z5, z6, z7, z8]) ⟨_, _, _, _, rfl⟩ ?_ ?_
  · rintro k hk ρ ⟨z5, z6, z7, z8, rfl⟩
    have hk' : k < W.takes.length := by rw [hw.same]; exact hk
    have l1 := hw.len_giv hk
    have l2 := hw.len_tak hk
    have b1 := p_borne (f := f) (l := tak W k) (fun j hj => by rw [lf]; exact ((hw.mem_tak hk).mp hj).1) (by omega)
    have b2 := p_borne (f := f) (l := giv W k) (fun j hj => by rw [lf]; exact ((hw.mem_giv hk).mp hj).1) (by omega)
    unfold evenB at he
    have ev := of_decide_eq_true (List.all_eq_true.mp he k (List.mem_range.mpr hk))
    have eg : W.gives[k] = giv W k := (giv_eq hk).symm
    rw [eg]
    unfold X_streamfault_b2
    simp -implicitDefEqProofs [atI_tak hk', b1, b2, ev]
    exact ⟨_, _, _, _, rfl⟩
  rintro ρ ⟨z5, z6, z7, z8, rfl⟩
  simp -implicitDefEqProofs
theorem Stm.fault (hw : IsWeb W) (hf : Stm W f) : F_streamfault [webD W, intsD f] = some .none := by
  refine p_faultA hw hf.be hf.hi ?_
  unfold evenB
  rw [List.all_eq_true]
  intro h hh
  rw [decide_eq_true_iff]
  exact hf.ev h (List.mem_range.mp hh)
/-! rows together -/
variable {qs : List (List Nat × Int)}
theorem tot_sm (l : List Nat) : ∀ qs : List (List Nat × Int), Calm.sm l (tot qs) = (qs.map fun p => Calm.sm l (ind p.1 p.2)).sum
  | [] => by
    show Calm.sm l (tot []) = 0
    exact Calm.sm_nul fun k _ => rfl
  | p :: qs => by
    rw [List.map_cons, List.sum_cons, ← tot_sm l qs, ← Calm.sm_add]
    exact Calm.sm_same fun k _ => by unfold tot; rw [List.map_cons, List.sum_cons]
theorem tot_even (hw : IsWeb W) (hq : ∀ p ∈ qs, Bun W p.1) {h : Nat} (hh : h < W.gives.length) : Calm.sm (giv W h) (tot qs) = Calm.sm (tak W h) (tot qs) := by
  rw [tot_sm, tot_sm]
  congr 1
  exact List.map_congr_left fun p hp => row_even hw (hq p hp).ok hh
theorem cnt_mul {c : Int} : ∀ l : List (Option Nat), cnt none c l = c * cnt none 1 l
  | [] => by unfold cnt; simp
  | x :: l => by
    have := cnt_mul (c := c) l
    unfold cnt at this ⊢
    rw [List.map_cons, List.sum_cons, this, List.map_cons, List.sum_cons, Int.mul_add]
    congr 1
    split <;> simp
def wayS (W : Web) (qs : List (List Nat × Int)) : Int := (qs.map fun p => if (rd W (p.1.headD 0)).b = none then p.2 else 0).sum
theorem tot_doors (hq : ∀ p ∈ qs, Bun W p.1) : Calm.sm (doorsOf W 0) (tot qs) = wayS W qs := by
  rw [tot_sm]
  unfold wayS
  congr 1
  refine List.map_congr_left fun p hp => ?_
  have b := hq p hp
  rw [ind_sm (doors_sorted.imp fun h => by omega) b.ok.nd]
  have e : Calm.sm p.1 (ind (doorsOf W 0) p.2) = cnt none p.2 (begs W p.1) := by
    unfold cnt begs Calm.sm
    rw [List.map_map]
    congr 1
    refine List.map_congr_left fun k hk => ?_
    show (if k ∈ doorsOf W 0 then p.2 else 0) = if (rd W k).b = none then p.2 else 0
    by_cases z : (rd W k).b = none
    · rw [if_pos z, if_pos (mem_inD.mpr ⟨b.ok.lt k hk, z⟩)]
    · rw [if_neg z, if_neg fun y => z (mem_inD.mp y).2]
  rw [e, cnt_mul, b.inn]
  split <;> simp
theorem tot_nn (h : ∀ p ∈ qs, 0 ≤ p.2) (k : Nat) : 0 ≤ tot qs k := by
  induction qs with
  | nil => exact Int.le_refl _
  | cons p qs ih =>
    have h1 := h p (List.mem_cons_self ..)
    have h2 := ih fun q hq => h q (List.mem_cons_of_mem _ hq)
    unfold tot at h2 ⊢
    rw [List.map_cons, List.sum_cons]
    have : 0 ≤ ind p.1 p.2 k := by unfold ind; split <;> omega
    omega
theorem tot_mem (h : ∀ p ∈ qs, 0 ≤ p.2) {p : List Nat × Int} (hp : p ∈ qs) (k : Nat) : ind p.1 p.2 k ≤ tot qs k := by
  induction qs with
  | nil => exact nomatch hp
  | cons q qs ih =>
    have h1 := h q (List.mem_cons_self ..)
    have h3 := tot_nn (fun r hr => h r (List.mem_cons_of_mem _ hr)) k
    have hn : 0 ≤ ind q.1 q.2 k := by unfold ind; split <;> omega
    have e : tot (q :: qs) k = ind q.1 q.2 k + tot qs k := by unfold tot; rw [List.map_cons, List.sum_cons]
    rw [e]
    rcases List.mem_cons.mp hp with z | z
    · rw [z]; omega
    · have := ih (fun r hr => h r (List.mem_cons_of_mem _ hr)) z
      omega
/-- a part of a stream, and what is left -/
theorem part_stm (hw : IsWeb W) (hf : Stm W f) {g : Nat → Int} (ev : ∀ h, h < W.gives.length → Calm.sm (giv W h) g = Calm.sm (tak W h) g) (g0 : ∀ k, 0 ≤ g k) (g1 : ∀ k, g k ≤ at0 f k) : Stm W ((List.range W.roads.length).map g) ∧ Stm W ((List.range W.roads.length).map fun k => at0 f k - g k) := by
  have out : ∀ k, ¬ k < W.roads.length → at0 f k = 0 := fun k hk => by have := hf.be.len; simp [at0, this, hk]
  have a1 : ∀ k, at0 ((List.range W.roads.length).map g) k = g k := fun k => by
    by_cases h : k < W.roads.length
    · exact at0_range h
    · have h1 := g0 k; have h2 := g1 k; rw [out k h] at h2
      have : g k = 0 := by omega
      rw [this]
      simp [at0, h]
  have a2 : ∀ k, at0 ((List.range W.roads.length).map fun k => at0 f k - g k) k = at0 f k - g k := fun k => by
    by_cases h : k < W.roads.length
    · exact at0_range (f := fun k => at0 f k - g k) h
    · have h1 := g0 k; have h2 := g1 k; rw [out k h] at h2
      have : g k = 0 := by omega
      rw [this, out k h]
      simp [at0, h]
  refine ⟨⟨⟨by simp, fun x hx => ?_⟩, fun k => ?_, fun h hh => ?_⟩, ⟨by simp, fun x hx => ?_⟩, fun k => ?_, fun h hh => ?_⟩
  · obtain ⟨k, _, rfl⟩ := List.mem_map.mp hx
    exact g0 k
  · rw [a1]; have := g1 k; have := hf.hi k; omega
  · rw [Calm.sm_same (g := g) fun k _ => a1 k, Calm.sm_same (l := tak W h) (g := g) fun k _ => a1 k]
    exact ev h hh
  · obtain ⟨k, _, rfl⟩ := List.mem_map.mp hx
    have := g1 k
    show 0 ≤ at0 f k - g k
    omega
  · rw [a2]; have := g0 k; have := hf.hi k; omega
  · rw [Calm.sm_same (g := fun k => at0 f k - g k) fun k _ => a2 k, Calm.sm_same (l := tak W h) (g := fun k => at0 f k - g k) fun k _ => a2 k, Calm.sm_sub, Calm.sm_sub, ev h hh, hf.ev h hh]
end
end Fn

namespace Fn
open PySem PySem.Spec PyProof.Rows L2 Uv
theorem wayS_snoc {W : Web} {qs : List (List Nat × Int)} {p : List Nat × Int} : wayS W (qs ++ [p]) = wayS W qs + if (rd W (p.1.headD 0)).b = none then p.2 else 0 := by
  unfold wayS
  rw [List.map_append, List.sum_append]
  simp
theorem tot_take {rows : List (List Nat × Int)} {i : Nat} (hi : i < rows.length) (k : Nat) : tot (rows.take (i + 1)) k = tot (rows.take i) k + ind rows[i].1 rows[i].2 k := by
  have tk : rows.take (i + 1) = rows.take i ++ [rows[i]] := by rw [List.take_succ, List.getElem?_eq_getElem hi]; rfl
  rw [tk, tot_snoc]
theorem k07 (ns : List Int) (h : ns.length ≤ 63) : F_law_z92 [scrD (ns.map PyData.int)] = some (.bool true) := by
  refine eq_of_wp ?_
  unfold F_law_z92
  refine wp_runP rfl ?_
  unfold X_law_z92
  simp -implicitDefEqProofs
  refine a_deck h fun cs d => ?_
  simp -implicitDefEqProofs
  refine wp_for (fun k ρ => ∃ (cs : List Cel) (z2 z3 z4 z5 z6 z7 z8 z9 z10 z11 z12 : Sl), ρ = [.dat (scrD (ns.map PyData.int)), .own cs, z2, z3, z4, z5, z6, z7, z8, z9, z10, z11, z12] ∧ DkA (5000 * k) cs) ⟨cs, _, _, _, _, _, _, _, _, _, _, _, rfl, d⟩ ?_ ?_
  · rintro k hk ρ ⟨cs, z2, z3, z4, z5, z6, z7, z8, z9, z10, z11, z12, rfl, d⟩
    have hk : k < 6 := by simpa using hk
    unfold X_law_z92_b3
    simp -implicitDefEqProofs
    refine a_next d (by omega) (by omega) (by omega) fun r cs1 hr d1 => ?_
    simp -implicitDefEqProofs
    refine a_web (most := 8) (many := 20) d1 (by omega) (by omega) (by omega) (by omega) (by omega) fun W cs2 hw d2 => ?_
    have hc := hw.count
    simp -implicitDefEqProofs
    refine a_next d2 (by omega) (by omega) (by omega) fun s cs3 hs d3 => ?_
    simp -implicitDefEqProofs
    refine a_stream d3 (by omega) hw (by omega) fun f cs4 hf d4 => ?_
    have lf := hf.be.len
    simp -implicitDefEqProofs
    refine ⟨by omega, ?_⟩
    refine p_bundle hw hf fun rows rl rok rt => ?_
    simp -implicitDefEqProofs
    refine wp_forM (fun i ρ => ∃ (cs : List Cel) (qs : List (List Nat × Int)) (ds : List PD) (z7 z8 z9 z10 : Sl), ρ = [.dat (scrD (ns.map PyData.int)), .own cs, .dat (natD k), .dat (webD W), .dat (intsD f), .own (dats ds), .dat (.int (wayS W qs)), z7, z8, z9, z10, z11, z12] ∧ ds = berD W (tot qs) ∧ (∀ p ∈ qs, Bun W p.1 ∧ 0 ≤ p.2) ∧ (∀ j, tot qs j ≤ tot (rows.take i) j) ∧ DkA (5000 * k + 2000 + i) cs) ⟨cs4, [], _, _, _, _, _, rfl, ?_, by simp, fun j => ?_, d4.mono (by omega)⟩ ?_ ?_
    · unfold berD
      apply List.ext_getElem
      · simp [lf]
      · intro j h1 h2
        simp [tot]
    · simp [tot]
    · rintro i hi ρ ⟨cs, qs, ds, z7, z8, z9, z10, rfl, eds, qok, ql, d⟩
      obtain ⟨R, many, hR⟩ : ∃ R m, rows[i] = (R, m) := ⟨_, _, rfl⟩
      obtain ⟨bR, m1⟩ := rok _ (List.getElem_mem hi)
      rw [hR] at bR m1 ⊢
      have tk := tot_take hi
      rw [hR] at tk
      unfold X_law_z92_b2
      simp -implicitDefEqProofs [rowD]
      have rnn : ∀ p ∈ rows, 0 ≤ p.2 := fun p hp => by have := (rok p hp).2; omega
      have bR : Bun W R := bR
      have m1 : 1 ≤ many := m1
      obtain ⟨x0, xs, hx0⟩ := List.exists_cons_of_ne_nil bR.ne
      have x0R : x0 ∈ R := by rw [hx0]; exact List.mem_cons_self ..
      have x0n := bR.ok.lt x0 x0R
      have mx : many ≤ 1000000000000 := by
        have h1 := tot_mem rnn (List.getElem_mem hi) x0
        rw [hR, rt x0] at h1
        have h1 : ind R many x0 ≤ at0 f x0 := h1
        unfold ind at h1
        rw [if_pos x0R] at h1
        have h2 := hf.hi x0
        have h3 := (hw.rd x0n).2.2.2.2
        omega
      refine a_next d (by omega) (by omega) (by omega) fun few cs5 hfew d5 => ?_
      have a0 : atI (R.map natD) 0 = some (natD x0) := by rw [hx0]; exact atI_at (k := 0) (by simp)
      obtain ⟨qs2, hq2⟩ : ∃ q, q = qs ++ [(R, (few : Int))] := ⟨_, rfl⟩
      have hd : R.headD 0 = x0 := by rw [hx0]; rfl
      have inner : ∀ (w : Int), w = wayS W qs2 → ∀ Q : Out → Prop, (∀ z10 : Sl, Q (.nxt [Sl.dat (scrD (List.map PyData.int ns)), Sl.own cs5, Sl.dat (natD k), Sl.dat (webD W), Sl.dat (intsD f), Sl.own (dats (berD W (tot qs2))), Sl.dat (PyData.int (wayS W qs2)), Sl.dat (natsD R), Sl.dat (PyData.int many), .dat (natD few), z10, z11, z12])) → wp ((forGo (gName' 10) X_law_z92_b1 (R.map natD) [Sl.dat (scrD (List.map PyData.int ns)), Sl.own cs5, Sl.dat (natD k), Sl.dat (webD W), Sl.dat (intsD f), Sl.own (dats ds), Sl.dat (PyData.int w), Sl.dat (natsD R), Sl.dat (PyData.int many), .dat (natD few), z10, z11, z12])) (tag Q) := by
        intro w hw' Q hQ
        refine wp_forM (fun j ρ => ∃ (ds : List PD) (z10 : Sl), ρ = [Sl.dat (scrD (List.map PyData.int ns)), Sl.own cs5, Sl.dat (natD k), Sl.dat (webD W), Sl.dat (intsD f), Sl.own (dats ds), Sl.dat (PyData.int w), Sl.dat (natsD R), Sl.dat (PyData.int many), .dat (natD few), z10, z11, z12] ∧ ds = berD W fun k => tot qs k + ind (R.take j) (few : Int) k) ⟨_, _, rfl, ?_⟩ ?_ ?_
        · rw [eds]
          unfold berD
          refine List.map_congr_left fun k _ => ?_
          simp [ind]
        · rintro j hj ρ ⟨ds, z8, rfl, eds⟩
          obtain ⟨x, ex⟩ : ∃ x, x = R[j] := ⟨_, rfl⟩
          have xn : x < W.roads.length := by rw [ex]; exact bR.ok.lt _ (List.getElem_mem hj)
          have ld : x < ds.length := by rw [eds]; unfold berD; simpa using xn
          have ax : atI ds (x : Int) = some (.int (tot qs x)) := by
            have e0 : ind (R.take j) (few : Int) x = 0 := by rw [ex]; exact ind_fresh hj bR.ok.nd
            rw [eds]
            unfold berD
            rw [atI_map (by simpa using xn)]
            simp [e0]
          rw [← ex]
          unfold X_law_z92_b1
          simp -implicitDefEqProofs [ax]
          rw [ixN_nat' ld]
          simp -implicitDefEqProofs
          rw [datAt_at ld]
          simp -implicitDefEqProofs
          refine ⟨_, _, rfl, ?_⟩
          rw [eds]
          refine range_setA ?_ fun k hk => ?_
          · rw [ind_snoc hj bR.ok.nd, if_pos ex]
          · rw [ind_snoc hj bR.ok.nd, if_neg (by rw [← ex]; exact hk)]
        · rintro ρ ⟨ds, z8, rfl, eds⟩
          rw [List.take_length] at eds
          have e2 : (fun k => tot qs k + ind R (few : Int) k) = tot qs2 := by
            funext k
            rw [hq2, tot_snoc]
          rw [e2] at eds
          rw [eds, hw']
          exact hQ _
      have fin : ∀ z10 : Sl, ∃ (cs : List Cel) (qs : List (List Nat × Int)) (ds : List PD) (y7 y8 y9 y10 : Sl), [Sl.dat (scrD (List.map PyData.int ns)), Sl.own cs5, Sl.dat (natD k), Sl.dat (webD W), Sl.dat (intsD f), Sl.own (dats (berD W (tot qs2))), Sl.dat (PyData.int (wayS W qs2)), Sl.dat (natsD R), Sl.dat (PyData.int many), .dat (natD few), z10, z11, z12] = [.dat (scrD (ns.map PyData.int)), .own cs, .dat (natD k), .dat (webD W), .dat (intsD f), .own (dats ds), .dat (.int (wayS W qs)), y7, y8, y9, y10, z11, z12] ∧ ds = berD W (tot qs) ∧ (∀ p ∈ qs, Bun W p.1 ∧ 0 ≤ p.2) ∧ (∀ j, tot qs j ≤ tot (rows.take (i + 1)) j) ∧ DkA (5000 * k + 2000 + (i + 1)) cs := fun z10 => by
        refine ⟨cs5, qs2, _, _, _, _, _, rfl, rfl, fun p hp => ?_, fun j => ?_, d5⟩
        · rw [hq2] at hp
          rcases List.mem_append.mp hp with z | z
          · exact qok p z
          · rw [List.mem_singleton.mp z]; exact ⟨bR, by show (0 : Int) ≤ few; omega⟩
        · rw [tk j, hq2, tot_snoc]
          have h1 := ql j
          have h2 : ind R (few : Int) j ≤ ind R many j := by unfold ind; split <;> omega
          show tot qs j + ind R (few : Int) j ≤ tot (rows.take i) j + ind R many j
          omega
      simp -implicitDefEqProofs [a0, atI_road x0n, roadD]
      have ws := wayS_snoc (W := W) (qs := qs) (p := (R, (few : Int)))
      rw [← hq2] at ws
      have ws : wayS W qs2 = wayS W qs + if (rd W (R.headD 0)).b = none then (few : Int) else 0 := ws
      rw [hd] at ws
      cases hb0 : (rd W x0).b with
      | none =>
        rw [hb0, if_pos rfl] at ws
        simp -implicitDefEqProofs
        refine inner _ ws.symm _ fun z10 => ?_
        simp -implicitDefEqProofs
        exact ⟨fin z10⟩
      | some y =>
        rw [hb0, if_neg (by simp), Int.add_zero] at ws
        simp -implicitDefEqProofs
        refine inner _ ws.symm _ fun z10 => ?_
        simp -implicitDefEqProofs
        exact ⟨fin z10⟩
    · rintro ρ ⟨cs, qs, ds, z7, z8, z9, z10, rfl, eds, qok, ql, d⟩
      rw [List.take_length] at ql
      have g0 := tot_nn fun p hp => (qok p hp).2
      have g1 : ∀ j, tot qs j ≤ at0 f j := fun j => by rw [← rt j]; exact ql j
      obtain ⟨s1, s2⟩ := part_stm hw hf (fun h hh => tot_even hw (fun p hp => (qok p hp).1) hh) g0 g1
      obtain ⟨one, e1⟩ : ∃ o, o = (List.range W.roads.length).map (tot qs) := ⟨_, rfl⟩
      obtain ⟨rest, e2⟩ : ∃ o, o = (List.range W.roads.length).map fun k => at0 f k - tot qs k := ⟨_, rfl⟩
      rw [← e1] at s1
      rw [← e2] at s2
      have l1 := s1.be.len
      have l2 := s2.be.len
      have ed : ds = one.map PyData.int := by rw [eds, e1]; unfold berD; rw [List.map_map]; rfl
      have a1 : ∀ j, j < W.roads.length → at0 one j = tot qs j := fun j hj => by rw [e1]; exact at0_range hj
      have a2 : ∀ j, j < W.roads.length → at0 rest j = at0 f j - tot qs j := fun j hj => by rw [e2]; exact at0_range (f := fun k => at0 f k - tot qs k) hj
      have w1 := p_worth (f := one) hw l1
      have w2 := p_worth (f := rest) hw l2
      have w3 := p_worth (f := f) hw lf
      have c1 : Calm.sm (doorsOf W 0) (at0 one) = wayS W qs := by
        rw [← tot_doors fun p hp => (qok p hp).1]
        exact Calm.sm_same fun j hj => a1 j (mem_inD.mp hj).1
      have c2 : Calm.sm (doorsOf W 0) (at0 rest) = Calm.sm (doorsOf W 0) (at0 f) - wayS W qs := by
        rw [← tot_doors fun p hp => (qok p hp).1, ← Calm.sm_sub]
        exact Calm.sm_same fun j hj => a2 j (mem_inD.mp hj).1
      rw [c1] at w1
      rw [c2] at w2
      rw [ed]
      simp -implicitDefEqProofs
      refine ⟨in62_nat (by omega), by omega, wp_lcT (fun j => .int (at0 f j - at0 one j)) (fun j hj => ?_) ?_⟩
      · have hj := List.mem_range.mp hj
        simp -implicitDefEqProofs [atI_bears hj, atI_bears (show j < one.length by omega)]
      have er : (List.range f.length).map (fun j => PyData.int (at0 f j - at0 one j)) = rest.map PyData.int := by
        rw [e2, List.map_map, lf]
        exact List.map_congr_left fun j hj => by rw [a1 j (List.mem_range.mp hj)]; rfl
      rw [er]
      have f1 := s1.fault hw
      have f2 := s2.fault hw
      unfold intsD at f1 f2 w1 w2
      simp -implicitDefEqProofs [f1, f2, w1, w2, w3]
      rw [show wayS W qs + (Calm.sm (doorsOf W 0) (at0 f) - wayS W qs) = Calm.sm (doorsOf W 0) (at0 f) by omega]
      simp -implicitDefEqProofs
      exact ⟨cs, _, _, _, _, _, _, _, _, _, _, _, rfl, d.mono (by omega)⟩
  · rintro ρ ⟨cs, z2, z3, z4, z5, z6, z7, z8, z9, z10, z11, z12, rfl, d⟩
    simp -implicitDefEqProofs
end Fn

namespace Row
open PySem PySem.Spec PyProof.Rows L2 Uv Fn
def topS (i : Nat) : Stmt := PySem.Challenge.pw_unturned_k07_whole_parts_of_streams.main.body.getD i (.Pass ⟨0, 0, 0, 0⟩)
abbrev s__law_deck : Stmt := topS 16
abbrev N__law_deck : List Str := ["_law_script", "_law_cells", "_law_cell"]
theorem sc__law_deck : FnScope N__law_deck ["_law_script"] (defScope s__law_deck) := ⟨rfl, rfl, rfl, by decide +kernel, rfl, by decide +kernel, by decide +kernel⟩
abbrev s__law_next : Stmt := topS 17
abbrev N__law_next : List Str := ["_law_deck_here", "_law_many", "_law_rest", "_law_cell", "_law_mixed"]
theorem sc__law_next : FnScope N__law_next ["_law_deck_here", "_law_many"] (defScope s__law_next) := ⟨rfl, rfl, rfl, by decide +kernel, rfl, by decide +kernel, by decide +kernel⟩
abbrev s__law_one : Stmt := topS 18
abbrev N__law_one : List Str := ["_law_deck_here", "_law_some"]
theorem sc__law_one : FnScope N__law_one ["_law_deck_here", "_law_some"] (defScope s__law_one) := ⟨rfl, rfl, rfl, by decide +kernel, rfl, by decide +kernel, by decide +kernel⟩
abbrev s__law_round : Stmt := topS 23
abbrev N__law_round : List Str := ["_law_deck_here", "_law_web_here", "_law_bears", "_law_lit", "_law_begins", "_law_row", "_law_seen", "_law_house", "_law_further", "_law_end", "_law_k"]
theorem sc__law_round : FnScope N__law_round ["_law_deck_here", "_law_web_here", "_law_bears"] (defScope s__law_round) := ⟨rfl, rfl, rfl, by decide +kernel, rfl, by decide +kernel, by decide +kernel⟩
abbrev s__law_stream : Stmt := topS 24
abbrev N__law_stream : List Str := ["_law_deck_here", "_law_web_here", "_law_several", "_law_bears", "_law_turn", "_law_row", "_law_most", "_law_many", "_law_k"]
theorem sc__law_stream : FnScope N__law_stream ["_law_deck_here", "_law_web_here", "_law_several"] (defScope s__law_stream) := ⟨rfl, rfl, rfl, by decide +kernel, rfl, by decide +kernel, by decide +kernel⟩
abbrev s__law_order : Stmt := topS 20
abbrev N__law_order : List Str := ["_law_deck_here", "_law_numbers", "_law_found", "_law_number"]
theorem sc__law_order : FnScope N__law_order ["_law_deck_here", "_law_numbers"] (defScope s__law_order) := ⟨rfl, rfl, rfl, by decide +kernel, rfl, by decide +kernel, by decide +kernel⟩
abbrev s__law_room : Stmt := topS 19
abbrev N__law_room : List Str := ["_law_deck_here", "_law_far", "_law_small", "_law_great"]
theorem sc__law_room : FnScope N__law_room ["_law_deck_here", "_law_far"] (defScope s__law_room) := ⟨rfl, rfl, rfl, by decide +kernel, rfl, by decide +kernel, by decide +kernel⟩
abbrev s__law_road : Stmt := topS 21
abbrev N__law_road : List Str := ["_law_deck_here", "_law_houses", "_law_far", "_law_one_here", "_law_other", "_law_begin", "_law_end", "_law_number"]
theorem sc__law_road : FnScope N__law_road ["_law_deck_here", "_law_houses", "_law_far"] (defScope s__law_road) := ⟨rfl, rfl, rfl, by decide +kernel, rfl, by decide +kernel, by decide +kernel⟩
abbrev s__law_web : Stmt := topS 22
abbrev N__law_web : List Str := ["_law_deck_here", "_law_houses", "_law_roads", "_law_far", "_law_count", "_law_found", "_law_orders", "_law_side", "_law_rows", "_law_house", "_law_k"]
theorem sc__law_web : FnScope N__law_web ["_law_deck_here", "_law_houses", "_law_roads", "_law_far"] (defScope s__law_web) := ⟨rfl, rfl, rfl, by decide +kernel, rfl, by decide +kernel, by decide +kernel⟩
abbrev s_in_doors : Stmt := topS 5
abbrev N_in_doors : List Str := ["web", "number", "road"]
theorem sc_in_doors : FnScope N_in_doors ["web"] (defScope s_in_doors) := ⟨rfl, rfl, rfl, by decide +kernel, rfl, by decide +kernel, by decide +kernel⟩
abbrev s_first_bearing : Stmt := topS 8
abbrev N_first_bearing : List Str := ["web", "left", "bearing", "road"]
theorem sc_first_bearing : FnScope N_first_bearing ["web", "left"] (defScope s_first_bearing) := ⟨rfl, rfl, rfl, by decide +kernel, rfl, by decide +kernel, by decide +kernel⟩
abbrev s_from_least : Stmt := topS 10
abbrev N_from_least : List Str := ["ring", "at"]
theorem sc_from_least : FnScope N_from_least ["ring"] (defScope s_from_least) := ⟨rfl, rfl, rfl, by decide +kernel, rfl, by decide +kernel, by decide +kernel⟩
abbrev s_way_or_ring : Stmt := topS 9
abbrev N_way_or_ring : List Str := ["web", "left", "first", "roads", "gives", "takes", "gone", "end", "begins", "road"]
theorem sc_way_or_ring : FnScope N_way_or_ring ["web", "left", "first"] (defScope s_way_or_ring) := ⟨rfl, rfl, rfl, by decide +kernel, rfl, by decide +kernel, by decide +kernel⟩
abbrev s_bundle : Stmt := topS 7
abbrev N_bundle : List Str := ["web", "stream", "left", "rows", "first", "roads", "many", "road"]
theorem sc_bundle : FnScope N_bundle ["web", "stream"] (defScope s_bundle) := ⟨rfl, rfl, rfl, by decide +kernel, rfl, by decide +kernel, by decide +kernel⟩
abbrev s_borne : Stmt := topS 3
abbrev N_borne : List Str := ["bears", "numbers", "number"]
theorem sc_borne : FnScope N_borne ["bears", "numbers"] (defScope s_borne) := ⟨rfl, rfl, rfl, by decide +kernel, rfl, by decide +kernel, by decide +kernel⟩
abbrev s_is_number : Stmt := topS 1
abbrev N_is_number : List Str := ["thing"]
theorem sc_is_number : FnScope N_is_number ["thing"] (defScope s_is_number) := ⟨rfl, rfl, rfl, by decide +kernel, rfl, by decide +kernel, by decide +kernel⟩
abbrev s_is_tuple_of : Stmt := topS 2
abbrev N_is_tuple_of : List Str := ["thing", "least", "most"]
theorem sc_is_tuple_of : FnScope N_is_tuple_of ["thing", "least", "most"] (defScope s_is_tuple_of) := ⟨rfl, rfl, rfl, by decide +kernel, rfl, by decide +kernel, by decide +kernel⟩
abbrev s_is_form : Stmt := topS 13
abbrev N_is_form : List Str := ["thing", "many", "bears"]
theorem sc_is_form : FnScope N_is_form ["thing", "many"] (defScope s_is_form) := ⟨rfl, rfl, rfl, by decide +kernel, rfl, by decide +kernel, by decide +kernel⟩
abbrev s_streamfault : Stmt := topS 12
abbrev N_streamfault : List Str := ["web", "thing", "roads", "gives", "takes", "road", "bears", "house", "order"]
theorem sc_streamfault : FnScope N_streamfault ["web", "thing"] (defScope s_streamfault) := ⟨rfl, rfl, rfl, by decide +kernel, rfl, by decide +kernel, by decide +kernel⟩
abbrev s_worth : Stmt := topS 14
abbrev N_worth : List Str := ["web", "stream"]
theorem sc_worth : FnScope N_worth ["web", "stream"] (defScope s_worth) := ⟨rfl, rfl, rfl, by decide +kernel, rfl, by decide +kernel, by decide +kernel⟩
abbrev s_law : Stmt := topS 25
abbrev N_law : List Str := ["_law_script", "_law_deck_here", "_law_turn", "_law_web_here", "_law_stream_here", "_law_bears", "_law_ways", "_law_roads", "_law_many", "_law_few", "_law_k", "_law_one_here", "_law_rest"]
theorem sc_law : FnScope N_law ["_law_script"] (defScope s_law) := ⟨rfl, rfl, rfl, by decide +kernel, rfl, by decide +kernel, by decide +kernel⟩
structure Bm (mg : Str → Option Value) : Prop where
  n_abs : mg "abs" = none
  n_all : mg "all" = none
  n_bool : mg "bool" = none
  n_enumerate : mg "enumerate" = none
  n_int : mg "int" = none
  n_isinstance : mg "isinstance" = none
  n_len : mg "len" = none
  n_list : mg "list" = none
  n_min : mg "min" = none
  n_range : mg "range" = none
  n_sum : mg "sum" = none
  n_tuple : mg "tuple" = none
section
variable [kk : KK] {P : Program} {w : World} {mg : Str → Option Value} {base : Heap}
theorem eq_F__law_deck_h : F__law_deck_h = runD 1 2 X__law_deck_h := by unfold F__law_deck_h; rfl
theorem c__law_deck (F : Dfn K mg "_law_deck" s__law_deck ["_law_script"]) (B : Bm mg) : CalG P w K mg base 1 "_law_deck" (spD F__law_deck_h) := by
  rw [eq_F__law_deck_h]
  refine cal_g F sc__law_deck (fun vs H Q E h => len_D h) (fun f cdv A outer s H E hG hr => ⟨T__law_deck_h, ?_, fun vs Q h => go_D (n := 1) (k := 2) ss__law_deck_h rfl h⟩)
  unfold T__law_deck_h
  exact pss_cons (ps_setLc (i := 1) (own := [("_law_cell", 2)]) rfl sc__law_deck.nd rfl rfl (sw_true rfl rfl rfl (by decide +kernel)) (PI.or (pi_list (pv 0)) (pi_tup (pv 0))) (blkOk_by (N := N__law_deck) (sc := defScope s__law_deck) (by decide +kernel)) (fun _ _ _ _ _ => (pg_name (i := 2) sc__law_deck.nd rfl (.inl rfl))) (fun _ _ _ _ _ => pts_nil) (fun _ _ _ _ _ => pe_callB call_abs (by rfl) B.n_abs (by decide +kernel) (pa_cons (pv 2) pa_nil)))
      (pss_one (ps_ret (pe_lst (pa_cons (pe_lc (own := [("_law_cell", 2)]) rfl sc__law_deck.nd (PI.or (pi_list (pv 1)) (pi_tup (pv 1))) (blkOk_by (N := N__law_deck) (sc := defScope s__law_deck) (by decide +kernel)) (fun _ _ _ _ _ => (pg_name (i := 2) sc__law_deck.nd rfl (.inl rfl))) (fun _ _ _ _ _ => pts_one (pt_cmpR op_ge (pv 2) (pe_op op_pow pe_int pe_int) (nomark _))) (fun _ _ _ _ _ => (pv 2))) (pa_cons (pe_op op_addU (pv 1) (pe_lst (pa_cons (pe_op op_addU (pe_callB call_len_seq (by rfl) B.n_len (by decide +kernel) (pa_cons (pv 1) pa_nil)) pe_int) pa_nil))) (pa_cons pe_int pa_nil))))))
theorem eq_F__law_next : F__law_next = runW 1 3 X__law_next := by unfold F__law_next; rfl
theorem c__law_next (F : Dfn K mg "_law_next" s__law_next ["_law_deck_here", "_law_many"]) (B : Bm mg) : CalG P w K mg base 1 "_law_next" (spW F__law_next) := by
  rw [eq_F__law_next]
  refine cal_g F sc__law_next (fun vs H Q E h => len_W h) (fun f cdv A outer s H E hG hr => ⟨T__law_next, ?_, fun vs Q h => go_W (n := 1) (k := 3) ss__law_next rfl h⟩)
  unfold T__law_next
  exact pss_cons (ps_while PassesOwn.never (pt_cmpR (op_neD hr.units) (pe_ix ix_seq (pv 0) pe_int (fun _ _ => rfl)) (pe_lst pa_nil) (nomark _)) (pss_cons (ps_set (i := 2) sc__law_next.nd rfl (.inl rfl) (pe_ix ix_seq (pe_ix ix_seq (pv 0) pe_int (fun _ _ => rfl)) pe_int (fun _ _ => rfl)))
      (pss_cons (ps_if (pt_cmpR (op_gtU hr.units) (pv 2) pe_int (nomark _)) (pss_cons (ps_asg (pe_op op_fdivW (pv 2) (pv 1)) (pg_sub (pe_ix ix_seq (pv 0) pe_int (fun _ _ => rfl)) pe_int set_list))
      (pss_one (ps_ret (pe_op op_mod (pv 2) (pv 1))))) pss_nil)
      (pss_one (ps_expr (pe_bm PySem.F.plainAttrs_list PySem.F.slot_list_pop PySem.F.type_list_pop mt_popAt (pe_ix ix_seq (pv 0) pe_int (fun _ _ => rfl)) (pa_cons pe_int pa_nil)))))))
      (pss_cons (ps_asg (pe_op op_addU (pe_ix ix_seq (pv 0) pe_int (fun _ _ => rfl)) pe_int) (pg_sub (pv 0) pe_int set_list))
      (pss_cons (ps_set (i := 3) sc__law_next.nd rfl (.inl rfl) (pe_op op_mod (pe_ix ix_seq (pe_ix ix_seq (pv 0) pe_int (fun _ _ => rfl)) (pe_op op_mod (pe_ix ix_seq (pv 0) pe_int (fun _ _ => rfl)) (pe_callB call_len_seq (by rfl) B.n_len (by decide +kernel) (pa_cons (pe_ix ix_seq (pv 0) pe_int (fun _ _ => rfl)) pa_nil))) (fun _ _ => rfl)) pe_int))
      (pss_cons (ps_set (i := 4) sc__law_next.nd rfl (.inl rfl) (pe_op op_addU (pe_op op_addU (pe_op op_mulV (pv 3) (pe_op op_addU pe_int (pe_op op_mulV pe_int (pe_ix ix_seq (pv 0) pe_int (fun _ _ => rfl))))) (pe_op op_mulV (pe_op op_mulV pe_int (pe_ix ix_seq (pv 0) pe_int (fun _ _ => rfl))) (pe_ix ix_seq (pv 0) pe_int (fun _ _ => rfl)))) pe_int))
      (pss_cons (ps_set (i := 4) sc__law_next.nd rfl (.inl rfl) (pe_op op_mod (pv 4) pe_int))
      (pss_one (ps_ret (pe_op op_mod (pe_op op_fdivW (pe_op op_mod (pe_op op_mulV (pv 4) (pv 4)) pe_int) pe_int) (pv 1))))))))
theorem eq_F__law_one : F__law_one = runW 1 0 X__law_one := by unfold F__law_one; rfl
theorem c__law_one (F : Dfn K mg "_law_one" s__law_one ["_law_deck_here", "_law_some"]) (B : Bm mg) (c__law_next : CalG P w K mg base 1 "_law_next" (spW F__law_next)) : CalG P w K mg base 2 "_law_one" (spW F__law_one) := by
  rw [eq_F__law_one]
  refine cal_g F sc__law_one (fun vs H Q E h => len_W h) (fun f cdv A outer s H E hG hr => ⟨T__law_one, ?_, fun vs Q h => go_W (n := 1) (k := 0) ss__law_one rfl h⟩)
  unfold T__law_one
  exact pss_one (ps_ret (pe_ix ix_seq (pv 1) (pe_g c__law_next hr (by decide) hG (by rfl) (pa_cons (pv 0) (pa_cons (pe_callB call_len_seq (by rfl) B.n_len (by decide +kernel) (pa_cons (pv 1) pa_nil)) pa_nil))) (fun _ _ => rfl)))
theorem eq_F__law_round_b : F__law_round_b = runV 2 8 X__law_round_b := by unfold F__law_round_b; rfl
theorem c__law_round (F : Dfn K mg "_law_round" s__law_round ["_law_deck_here", "_law_web_here", "_law_bears"]) (B : Bm mg) (c__law_next : CalG P w K mg base 1 "_law_next" (spW F__law_next)) (c__law_one : CalG P w K mg base 2 "_law_one" (spW F__law_one)) : CalG P w K mg base 3 "_law_round" (spV F__law_round_b) := by
  rw [eq_F__law_round_b]
  refine cal_g F sc__law_round (fun vs H Q E h => len_V h) (fun f cdv A outer s H E hG hr => ⟨T__law_round_b, ?_, fun vs Q h => go_V (n := 2) (k := 8) ss__law_round_b rfl h⟩)
  unfold T__law_round_b
  exact pss_cons (ps_setLc (i := 3) (own := [("_law_k", 10)]) rfl sc__law_round.nd rfl rfl (sw_true rfl rfl rfl (by decide +kernel)) (pi_range1 (by rfl) B.n_range (pa_cons (pe_callB call_len_seq (by rfl) B.n_len (by decide +kernel) (pa_cons (pe_ix ix_seq (pv 1) pe_int (fun _ _ => rfl)) pa_nil)) pa_nil)) (blkOk_by (N := N__law_round) (sc := defScope s__law_round) (by decide +kernel)) (fun _ _ _ _ _ => (pg_name (i := 10) sc__law_round.nd rfl (.inl rfl))) (fun _ _ _ _ _ => pts_one (pt_cmpR op_lt (pe_ix ix_seq (pv 2) (pv 10) (fun _ _ => rfl)) (pe_ix ix_seq (pe_ix ix_seq (pe_ix ix_seq (pv 1) pe_int (fun _ _ => rfl)) (pv 10) (fun _ _ => rfl)) pe_int (fun _ _ => rfl)) (nomark _))) (fun _ _ _ _ _ => (pv 10)))
      (pss_cons (ps_setLc (i := 4) (own := [("_law_k", 10)]) rfl sc__law_round.nd rfl rfl (sw_true rfl rfl rfl (by decide +kernel)) (PI.or (pi_list (pv 3)) (pi_tup (pv 3))) (blkOk_by (N := N__law_round) (sc := defScope s__law_round) (by decide +kernel)) (fun _ _ _ _ _ => (pg_name (i := 10) sc__law_round.nd rfl (.inl rfl))) (fun _ _ _ _ _ => pts_one (pt_cmpR op_isU (pe_ix ix_seq (pe_ix ix_seq (pe_ix ix_seq (pv 1) pe_int (fun _ _ => rfl)) (pv 10) (fun _ _ => rfl)) pe_int (fun _ _ => rfl)) pe_non (nomark _))) (fun _ _ _ _ _ => (pv 10)))
      (pss_cons (ps_if (PW.pt (pw_or (pt_cmpR (op_eqD hr.units) (pv 4) (pe_lst pa_nil) (nomark _)) (pw_or1 (pt_cmpR (op_eqD hr.units) (pe_g c__law_next hr (by decide) hG (by rfl) (pa_cons (pv 0) (pa_cons pe_int pa_nil))) pe_int (nomark _))))) (pss_one (ps_set (i := 4) sc__law_round.nd rfl (.inl rfl) (pv 3))) pss_nil)
      (pss_cons (ps_if (pt_cmpR (op_eqD hr.units) (pv 4) (pe_lst pa_nil) (nomark _)) (pss_one (ps_ret (pe_lst pa_nil))) pss_nil)
      (pss_cons (ps_set (i := 5) sc__law_round.nd rfl (.inl rfl) (pe_lst (pa_cons (pe_g c__law_one hr (by decide) hG (by rfl) (pa_cons (pv 0) (pa_cons (pv 4) pa_nil))) pa_nil)))
      (pss_cons (ps_set (i := 6) sc__law_round.nd rfl (.inl rfl) (pe_lst (pa_cons (pe_ix ix_seq (pe_ix ix_seq (pe_ix ix_seq (pv 1) pe_int (fun _ _ => rfl)) (pe_ix ix_seq (pv 5) pe_int (fun _ _ => rfl)) (fun _ _ => rfl)) pe_int (fun _ _ => rfl)) pa_nil)))
      (pss_cons (ps_while PassesOwn.never (pt_cmpR (op_notInU (u65 hr)) (pe_ix ix_seq (pe_ix ix_seq (pe_ix ix_seq (pv 1) pe_int (fun _ _ => rfl)) (pe_ix ix_seq (pv 5) (pe_un un_neg pe_int) (fun _ _ => rfl)) (fun _ _ => rfl)) pe_int (fun _ _ => rfl)) (pe_op op_addU (pv 6) (pe_lst (pa_cons pe_non pa_nil))) (by rfl)) (pss_cons (ps_set (i := 7) sc__law_round.nd rfl (.inr rfl) (pe_ix ix_seq (pe_ix ix_seq (pe_ix ix_seq (pv 1) pe_int (fun _ _ => rfl)) (pe_ix ix_seq (pv 5) (pe_un un_neg pe_int) (fun _ _ => rfl)) (fun _ _ => rfl)) pe_int (fun _ _ => rfl)))
      (pss_cons (ps_expr (pe_bm PySem.F.plainAttrs_list PySem.F.slot_list_append PySem.F.type_list_append mt_append (pv 6) (pa_cons (pv 7) pa_nil)))
      (pss_cons (ps_setLc (i := 8) (own := [("_law_k", 10)]) rfl sc__law_round.nd rfl rfl (sw_true rfl rfl rfl (by decide +kernel)) (PI.or (pi_list (pv 3)) (pi_tup (pv 3))) (blkOk_by (N := N__law_round) (sc := defScope s__law_round) (by decide +kernel)) (fun _ _ _ _ _ => (pg_name (i := 10) sc__law_round.nd rfl (.inl rfl))) (fun _ _ _ _ _ => pts_one (pt_cmpR (op_eqD hr.units) (pe_ix ix_seq (pe_ix ix_seq (pe_ix ix_seq (pv 1) pe_int (fun _ _ => rfl)) (pv 10) (fun _ _ => rfl)) pe_int (fun _ _ => rfl)) (pv 7) (nomark _))) (fun _ _ _ _ _ => (pv 10)))
      (pss_cons (ps_if (pt_cmpR (op_eqD hr.units) (pv 8) (pe_lst pa_nil) (nomark _)) (pss_one (ps_ret (pe_lst pa_nil))) pss_nil)
      (pss_one (ps_expr (pe_bm PySem.F.plainAttrs_list PySem.F.slot_list_append PySem.F.type_list_append mt_append (pv 5) (pa_cons (pe_g c__law_one hr (by decide) hG (by rfl) (pa_cons (pv 0) (pa_cons (pv 8) pa_nil))) pa_nil)))))))))
      (pss_cons (ps_set (i := 9) sc__law_round.nd rfl (.inl rfl) (pe_ix ix_seq (pe_ix ix_seq (pe_ix ix_seq (pv 1) pe_int (fun _ _ => rfl)) (pe_ix ix_seq (pv 5) (pe_un un_neg pe_int) (fun _ _ => rfl)) (fun _ _ => rfl)) pe_int (fun _ _ => rfl)))
      (pss_cons (ps_if (PW.pt (pw_and (pt_cmpR op_isU (pv 9) pe_non (nomark _)) (pw_and1 (pt_cmpR op_notU (pe_ix ix_seq (pe_ix ix_seq (pe_ix ix_seq (pv 1) pe_int (fun _ _ => rfl)) (pe_ix ix_seq (pv 5) pe_int (fun _ _ => rfl)) (fun _ _ => rfl)) pe_int (fun _ _ => rfl)) pe_non (nomark _))))) (pss_one (ps_ret (pe_lst pa_nil))) pss_nil)
      (pss_one (ps_ret (pe_slice sl_U (pv 5) (po_some (pe_ix ix_seq (pe_lst (pa_cons (PE.or (pe_bmF PySem.F.slot_tuple_index PySem.F.type_tuple_index (mt_indexF (u65 hr)) (pv 6) (pa_cons (pv 9) pa_nil)) (pe_bm PySem.F.plainAttrs_list PySem.F.slot_list_index PySem.F.type_list_index (mt_indexD (u65 hr)) (pv 6) (pa_cons (pv 9) pa_nil))) (pa_cons pe_int pa_nil))) (pe_callTy call_int1 (by rfl) B.n_int (by decide +kernel) (pa_cons (pe_cmpR op_isU (pv 9) pe_non (nomark _)) pa_nil)) (fun _ _ => rfl))) po_none)))))))))))
theorem eq_F__law_stream_f : F__law_stream_f = runW 2 6 X__law_stream_f := by unfold F__law_stream_f; rfl
theorem c__law_stream (F : Dfn K mg "_law_stream" s__law_stream ["_law_deck_here", "_law_web_here", "_law_several"]) (B : Bm mg) (c__law_next : CalG P w K mg base 1 "_law_next" (spW F__law_next)) (c__law_one : CalG P w K mg base 2 "_law_one" (spW F__law_one)) (c__law_round : CalG P w K mg base 3 "_law_round" (spV F__law_round_b)) : CalG P w K mg base 4 "_law_stream" (spW F__law_stream_f) := by
  rw [eq_F__law_stream_f]
  refine cal_g F sc__law_stream (fun vs H Q E h => len_W h) (fun f cdv A outer s H E hG hr => ⟨T__law_stream_f, ?_, fun vs Q h => go_W (n := 2) (k := 6) ss__law_stream_f rfl h⟩)
  unfold T__law_stream_f
  exact pss_cons (ps_set (i := 3) sc__law_stream.nd rfl (.inr rfl) (pe_op op_mulV (pe_lst (pa_cons pe_int pa_nil)) (pe_callB call_len_seq (by rfl) B.n_len (by decide +kernel) (pa_cons (pe_ix ix_seq (pv 1) pe_int (fun _ _ => rfl)) pa_nil))))
      (pss_cons (ps_for PassesOwn.never rfl (pi_range1 (by rfl) B.n_range (pa_cons (pv 2) pa_nil)) (pg_name (i := 4) sc__law_stream.nd rfl (.inl rfl)) (pss_cons (ps_set (i := 5) sc__law_stream.nd rfl (.inl rfl) (pe_g c__law_round hr (by decide) hG (by rfl) (pa_cons (pv 0) (pa_cons (pv 1) (pa_cons (pv 3) pa_nil)))))
      (pss_one (ps_if (pt_cmpR (op_neD hr.units) (pv 5) (pe_lst pa_nil) (nomark _)) (pss_cons (ps_set (i := 6) sc__law_stream.nd rfl (.inl rfl) (pe_callB (cr_minV rfl) (by rfl) B.n_min (by decide +kernel) (pa_cons (pe_lc (own := [("_law_k", 8)]) rfl sc__law_stream.nd (PI.or (pi_list (pv 5)) (pi_tup (pv 5))) (blkOk_by (N := N__law_stream) (sc := defScope s__law_stream) (by decide +kernel)) (fun _ _ _ _ _ => (pg_name (i := 8) sc__law_stream.nd rfl (.inl rfl))) (fun _ _ _ _ _ => pts_nil) (fun _ _ _ _ _ => pe_op op_sub (pe_ix ix_seq (pe_ix ix_seq (pe_ix ix_seq (pv 1) pe_int (fun _ _ => rfl)) (pv 8) (fun _ _ => rfl)) pe_int (fun _ _ => rfl)) (pe_ix ix_seq (pv 3) (pv 8) (fun _ _ => rfl)))) pa_nil)))
      (pss_cons (ps_set (i := 7) sc__law_stream.nd rfl (.inl rfl) (pe_g c__law_one hr (by decide) hG (by rfl) (pa_cons (pv 0) (pa_cons (pe_lst (pa_cons pe_int (pa_cons (pv 6) (pa_cons (pe_op op_addU pe_int (pe_g c__law_next hr (by decide) hG (by rfl) (pa_cons (pv 0) (pa_cons (pv 6) pa_nil)))) pa_nil)))) pa_nil))))
      (pss_one (ps_for PassesOwn.never rfl (PI.or (pi_list (pv 5)) (pi_tup (pv 5))) (pg_name (i := 8) sc__law_stream.nd rfl (.inl rfl)) (pss_one (ps_asg (pe_op op_addU (pe_ix ix_seq (pv 3) (pv 8) (fun _ _ => rfl)) (pv 7)) (pg_sub (pv 3) (pv 8) set_list))))))) pss_nil))))
      (pss_one (ps_ret (pe_callTy cr_tupF (by rfl) B.n_tuple (by decide +kernel) (pa_cons (pv 3) pa_nil)))))
theorem eq_F__law_order : F__law_order = runW 1 2 X__law_order := by unfold F__law_order; rfl
theorem c__law_order (F : Dfn K mg "_law_order" s__law_order ["_law_deck_here", "_law_numbers"]) (B : Bm mg) (c__law_next : CalG P w K mg base 1 "_law_next" (spW F__law_next)) : CalG P w K mg base 2 "_law_order" (spW F__law_order) := by
  rw [eq_F__law_order]
  refine cal_g F sc__law_order (fun vs H Q E h => len_W h) (fun f cdv A outer s H E hG hr => ⟨T__law_order, ?_, fun vs Q h => go_W (n := 1) (k := 2) ss__law_order rfl h⟩)
  unfold T__law_order
  exact pss_cons (ps_set (i := 2) sc__law_order.nd rfl (.inl rfl) (pe_lst pa_nil))
      (pss_cons (ps_for PassesOwn.never rfl (PI.or (pi_list (pv 1)) (pi_tup (pv 1))) (pg_name (i := 3) sc__law_order.nd rfl (.inl rfl)) (pss_one (ps_expr (pe_bm PySem.F.plainAttrs_list PySem.F.slot_list_insert PySem.F.type_list_insert mt_insert (pv 2) (pa_cons (pe_g c__law_next hr (by decide) hG (by rfl) (pa_cons (pv 0) (pa_cons (pe_op op_addU (pe_callB call_len_seq (by rfl) B.n_len (by decide +kernel) (pa_cons (pv 2) pa_nil)) pe_int) pa_nil))) (pa_cons (pv 3) pa_nil))))))
      (pss_one (ps_ret (pe_callTy cr_tupF (by rfl) B.n_tuple (by decide +kernel) (pa_cons (pv 2) pa_nil)))))
theorem eq_F__law_room : F__law_room = runW 1 2 X__law_room := by unfold F__law_room; rfl
theorem c__law_room (F : Dfn K mg "_law_room" s__law_room ["_law_deck_here", "_law_far"]) (B : Bm mg) (c__law_next : CalG P w K mg base 1 "_law_next" (spW F__law_next)) (c__law_one : CalG P w K mg base 2 "_law_one" (spW F__law_one)) : CalG P w K mg base 3 "_law_room" (spW F__law_room) := by
  rw [eq_F__law_room]
  refine cal_g F sc__law_room (fun vs H Q E h => len_W h) (fun f cdv A outer s H E hG hr => ⟨T__law_room, ?_, fun vs Q h => go_W (n := 1) (k := 2) ss__law_room rfl h⟩)
  unfold T__law_room
  exact pss_cons (ps_set (i := 2) sc__law_room.nd rfl (.inl rfl) (pe_g c__law_one hr (by decide) hG (by rfl) (pa_cons (pv 0) (pa_cons (pe_lst (pa_cons pe_int (pa_cons pe_int (pa_cons pe_int (pa_cons pe_int (pa_cons pe_int (pa_cons pe_int pa_nil))))))) pa_nil))))
      (pss_cons (ps_set (i := 3) sc__law_room.nd rfl (.inl rfl) (pe_g c__law_one hr (by decide) hG (by rfl) (pa_cons (pv 0) (pa_cons (pe_lst (pa_cons pe_int (pa_cons pe_int (pa_cons (pe_op op_pow pe_int pe_int) (pa_cons (pe_op op_sub (pe_op op_pow pe_int pe_int) (pe_g c__law_next hr (by decide) hG (by rfl) (pa_cons (pv 0) (pa_cons pe_int pa_nil)))) (pa_cons (pe_g c__law_next hr (by decide) hG (by rfl) (pa_cons (pv 0) (pa_cons (pe_op op_pow pe_int pe_int) pa_nil))) pa_nil)))))) pa_nil))))
      (pss_one (ps_ret (pe_ix ix_seq (pe_lst (pa_cons (pv 2) (pa_cons (pv 3) pa_nil))) (pe_callTy call_int1 (by rfl) B.n_int (by decide +kernel) (pa_cons (pv 1) pa_nil)) (fun _ _ => rfl)))))
theorem eq_F__law_road : F__law_road = runW 2 5 X__law_road := by unfold F__law_road; rfl
theorem c__law_road (F : Dfn K mg "_law_road" s__law_road ["_law_deck_here", "_law_houses", "_law_far"]) (B : Bm mg) (c__law_next : CalG P w K mg base 1 "_law_next" (spW F__law_next)) (c__law_room : CalG P w K mg base 3 "_law_room" (spW F__law_room)) : CalG P w K mg base 4 "_law_road" (spW F__law_road) := by
  rw [eq_F__law_road]
  refine cal_g F sc__law_road (fun vs H Q E h => len_W h) (fun f cdv A outer s H E hG hr => ⟨T__law_road, ?_, fun vs Q h => go_W (n := 2) (k := 5) ss__law_road rfl h⟩)
  unfold T__law_road
  exact pss_cons (ps_set (i := 3) sc__law_road.nd rfl (.inl rfl) (pe_g c__law_next hr (by decide) hG (by rfl) (pa_cons (pv 0) (pa_cons (pe_op op_addU (pv 1) pe_int) pa_nil))))
      (pss_cons (ps_set (i := 4) sc__law_road.nd rfl (.inl rfl) (pe_op op_mod (pe_op op_addU (pe_op op_addU (pv 3) pe_int) (pe_g c__law_next hr (by decide) hG (by rfl) (pa_cons (pv 0) (pa_cons (pv 1) pa_nil)))) (pe_op op_addU (pv 1) pe_int)))
      (pss_cons (ps_asg (pe_lc (own := [("_law_number", 7)]) rfl sc__law_road.nd (PI.or (pi_list (pe_tupF (pa_cons (pv 3) (pa_cons (pv 4) pa_nil)))) (pi_tup (pe_tupF (pa_cons (pv 3) (pa_cons (pv 4) pa_nil))))) (blkOk_by (N := N__law_road) (sc := defScope s__law_road) (by decide +kernel)) (fun _ _ _ _ _ => (pg_name (i := 7) sc__law_road.nd rfl (.inl rfl))) (fun _ _ _ _ _ => pts_nil) (fun _ _ _ _ _ => pe_ix ix_seq (pe_lst (pa_cons pe_non (pa_cons (pe_op op_sub (pv 7) pe_int) pa_nil))) (pe_callTy call_int1 (by rfl) B.n_int (by decide +kernel) (pa_cons (pe_cmpR (op_gtU hr.units) (pv 7) pe_int (nomark _)) pa_nil)) (fun _ _ => rfl))) (PG.or (pg_tup rfl (pgs_cons (pg_name (i := 5) sc__law_road.nd rfl (.inl rfl)) (pgs_cons (pg_name (i := 6) sc__law_road.nd rfl (.inl rfl)) pgs_nil))) (pg_unl rfl (pgs_cons (pg_name (i := 5) sc__law_road.nd rfl (.inl rfl)) (pgs_cons (pg_name (i := 6) sc__law_road.nd rfl (.inl rfl)) pgs_nil)))))
      (pss_one (ps_ret (pe_tupF (pa_cons (pv 5) (pa_cons (pv 6) (pa_cons (pe_g c__law_room hr (by decide) hG (by rfl) (pa_cons (pv 0) (pa_cons (pv 2) pa_nil))) pa_nil))))))))
theorem eq_F__law_web : F__law_web = runW 3 7 X__law_web := by unfold F__law_web; rfl
theorem c__law_web (F : Dfn K mg "_law_web" s__law_web ["_law_deck_here", "_law_houses", "_law_roads", "_law_far"]) (B : Bm mg) (c__law_next : CalG P w K mg base 1 "_law_next" (spW F__law_next)) (c__law_order : CalG P w K mg base 2 "_law_order" (spW F__law_order)) (c__law_road : CalG P w K mg base 4 "_law_road" (spW F__law_road)) : CalG P w K mg base 5 "_law_web" (spW F__law_web) := by
  rw [eq_F__law_web]
  refine cal_g F sc__law_web (fun vs H Q E h => len_W h) (fun f cdv A outer s H E hG hr => ⟨T__law_web, ?_, fun vs Q h => go_W (n := 3) (k := 7) ss__law_web rfl h⟩)
  unfold T__law_web
  exact pss_cons (ps_set (i := 4) sc__law_web.nd rfl (.inr rfl) (pe_op op_addU pe_int (pe_g c__law_next hr (by decide) hG (by rfl) (pa_cons (pv 0) (pa_cons (pv 1) pa_nil)))))
      (pss_cons (ps_set (i := 5) sc__law_web.nd rfl (.inr rfl) (pe_lc (own := [("_law_k", 10)]) rfl sc__law_web.nd (pi_range1 (by rfl) B.n_range (pa_cons (pe_op op_addU pe_int (pe_g c__law_next hr (by decide) hG (by rfl) (pa_cons (pv 0) (pa_cons (pv 2) pa_nil)))) pa_nil)) (blkOk_by (N := N__law_web) (sc := defScope s__law_web) (by decide +kernel)) (fun _ _ _ _ _ => (pg_name (i := 10) sc__law_web.nd rfl (.inl rfl))) (fun _ _ _ _ _ => pts_nil) (fun _ _ _ _ _ => pe_g c__law_road hr (by decide) hG (by rfl) (pa_cons (pv 0) (pa_cons (pv 4) (pa_cons (pv 3) pa_nil))))))
      (pss_cons (ps_set (i := 6) sc__law_web.nd rfl (.inl rfl) (pe_lst pa_nil))
      (pss_cons (ps_for PassesOwn.never rfl (PI.or (pi_list (pe_tupF (pa_cons pe_int (pa_cons pe_int pa_nil)))) (pi_tup (pe_tupF (pa_cons pe_int (pa_cons pe_int pa_nil))))) (pg_name (i := 7) sc__law_web.nd rfl (.inr rfl)) (pss_cons (ps_set (i := 8) sc__law_web.nd rfl (.inl rfl) (pe_lst pa_nil))
      (pss_cons (ps_for PassesOwn.never rfl (pi_range1 (by rfl) B.n_range (pa_cons (pv 4) pa_nil)) (pg_name (i := 9) sc__law_web.nd rfl (.inr rfl)) (pss_one (ps_expr (pe_bm PySem.F.plainAttrs_list PySem.F.slot_list_append PySem.F.type_list_append mt_append (pv 8) (pa_cons (pe_g c__law_order hr (by decide) hG (by rfl) (pa_cons (pv 0) (pa_cons (pe_lc (own := [("_law_k", 10)]) rfl sc__law_web.nd (pi_range1 (by rfl) B.n_range (pa_cons (pe_callB call_len_seq (by rfl) B.n_len (by decide +kernel) (pa_cons (pv 5) pa_nil)) pa_nil)) (blkOk_by (N := N__law_web) (sc := defScope s__law_web) (by decide +kernel)) (fun _ _ _ _ _ => (pg_name (i := 10) sc__law_web.nd rfl (.inl rfl))) (fun _ _ _ _ _ => pts_one (pt_cmpR (op_eqD hr.units) (pe_ix ix_seq (pe_ix ix_seq (pv 5) (pv 10) (fun _ _ => rfl)) (pv 7) (fun _ _ => rfl)) (pv 9) (nomark _))) (fun _ _ _ _ _ => (pv 10))) pa_nil))) pa_nil)))))
      (pss_one (ps_expr (pe_bm PySem.F.plainAttrs_list PySem.F.slot_list_append PySem.F.type_list_append mt_append (pv 6) (pa_cons (pe_callTy cr_tupF (by rfl) B.n_tuple (by decide +kernel) (pa_cons (pv 8) pa_nil)) pa_nil)))))))
      (pss_one (ps_ret (pe_tupF (pa_cons (pe_callTy cr_tupF (by rfl) B.n_tuple (by decide +kernel) (pa_cons (pv 5) pa_nil)) (pa_cons (pe_ix ix_seq (pv 6) pe_int (fun _ _ => rfl)) (pa_cons (pe_ix ix_seq (pv 6) pe_int (fun _ _ => rfl)) pa_nil)))))))))
theorem eq_F_in_doors : F_in_doors = runP 1 2 X_in_doors := by unfold F_in_doors; rfl
theorem c_in_doors (F : Dfn K mg "in_doors" s_in_doors ["web"]) (B : Bm mg) : CalG P w K mg base 1 "in_doors" (spF F_in_doors) := by
  rw [eq_F_in_doors]
  refine cal_g F sc_in_doors (fun vs H Q E h => len_F h) (fun f cdv A outer s H E hG hr => ⟨T_in_doors, ?_, fun vs Q h => go_P (n := 1) (k := 2) ss_in_doors rfl h⟩)
  unfold T_in_doors
  exact pss_one (ps_ret (pe_callTy cr_tupF (by rfl) B.n_tuple (by decide +kernel) (pa_cons (pe_lc (own := [("number", 1), ("road", 2)]) rfl sc_in_doors.nd (PI.or (pi_enum (by rfl) B.n_enumerate (pa_cons (pe_ix ix_seq (pv 0) pe_int (fun _ _ => rfl)) pa_nil)) (Un.pi_enumT (by rfl) B.n_enumerate (pa_cons (pe_ix ix_seq (pv 0) pe_int (fun _ _ => rfl)) pa_nil))) (blkOk_by (N := N_in_doors) (sc := defScope s_in_doors) (by decide +kernel)) (fun _ _ _ _ _ => (PG.or (pg_tup rfl (pgs_cons (pg_name (i := 1) sc_in_doors.nd rfl (.inl rfl)) (pgs_cons (pg_name (i := 2) sc_in_doors.nd rfl (.inl rfl)) pgs_nil))) (pg_unl rfl (pgs_cons (pg_name (i := 1) sc_in_doors.nd rfl (.inl rfl)) (pgs_cons (pg_name (i := 2) sc_in_doors.nd rfl (.inl rfl)) pgs_nil))))) (fun _ _ _ _ _ => pts_one (pt_cmpR op_isU (pe_ix ix_seq (pv 2) pe_int (fun _ _ => rfl)) pe_non (nomark _))) (fun _ _ _ _ _ => (pv 1))) pa_nil)))
theorem eq_F_first_bearing : F_first_bearing = runP 2 2 X_first_bearing := by unfold F_first_bearing; rfl
theorem c_first_bearing (F : Dfn K mg "first_bearing" s_first_bearing ["web", "left"]) (B : Bm mg) (c_in_doors : CalG P w K mg base 1 "in_doors" (spF F_in_doors)) : CalG P w K mg base 2 "first_bearing" (spF F_first_bearing) := by
  rw [eq_F_first_bearing]
  refine cal_g F sc_first_bearing (fun vs H Q E h => len_F h) (fun f cdv A outer s H E hG hr => ⟨T_first_bearing, ?_, fun vs Q h => go_P (n := 2) (k := 2) ss_first_bearing rfl h⟩)
  unfold T_first_bearing
  exact pss_cons (ps_setLc (i := 2) (own := [("road", 3)]) rfl sc_first_bearing.nd rfl rfl (sw_true rfl rfl rfl (by decide +kernel)) (PI.or (pi_list (pe_op op_addU (pe_callTy call_list_of (by rfl) B.n_list (by decide +kernel) (pa_cons (pe_g c_in_doors hr (by decide) hG (by rfl) (pa_cons (pv 0) pa_nil)) pa_nil)) (pe_listRg rfl (by rfl) B.n_list (prg_1 (by rfl) B.n_range (pe_callB call_len_seq (by rfl) B.n_len (by decide +kernel) (pa_cons (pv 1) pa_nil)))))) (pi_tup (pe_op op_addU (pe_callTy call_list_of (by rfl) B.n_list (by decide +kernel) (pa_cons (pe_g c_in_doors hr (by decide) hG (by rfl) (pa_cons (pv 0) pa_nil)) pa_nil)) (pe_listRg rfl (by rfl) B.n_list (prg_1 (by rfl) B.n_range (pe_callB call_len_seq (by rfl) B.n_len (by decide +kernel) (pa_cons (pv 1) pa_nil))))))) (blkOk_by (N := N_first_bearing) (sc := defScope s_first_bearing) (by decide +kernel)) (fun _ _ _ _ _ => (pg_name (i := 3) sc_first_bearing.nd rfl (.inl rfl))) (fun _ _ _ _ _ => pts_one (pt_cmpR (op_gtU hr.units) (pe_ix ix_seq (pv 1) (pv 3) (fun _ _ => rfl)) pe_int (nomark _))) (fun _ _ _ _ _ => (pv 3)))
      (pss_one (ps_ret (pe_ifExp (pt_cmpR (op_gtU hr.units) (pe_callB call_len_seq (by rfl) B.n_len (by decide +kernel) (pa_cons (pv 2) pa_nil)) pe_int (nomark _)) (pe_ix ix_seq (pv 2) pe_int (fun _ _ => rfl)) pe_non)))
theorem eq_F_from_least : F_from_least = runP 1 1 X_from_least := by unfold F_from_least; rfl
theorem c_from_least (F : Dfn K mg "from_least" s_from_least ["ring"]) (B : Bm mg) : CalG P w K mg base 1 "from_least" (spF F_from_least) := by
  rw [eq_F_from_least]
  refine cal_g F sc_from_least (fun vs H Q E h => len_F h) (fun f cdv A outer s H E hG hr => ⟨T_from_least, ?_, fun vs Q h => go_P (n := 1) (k := 1) ss_from_least rfl h⟩)
  unfold T_from_least
  exact pss_cons (ps_set (i := 1) sc_from_least.nd rfl (.inl rfl) (PE.or (pe_bmF PySem.F.slot_tuple_index PySem.F.type_tuple_index (mt_indexF (u65 hr)) (pv 0) (pa_cons (pe_callB (cr_minV rfl) (by rfl) B.n_min (by decide +kernel) (pa_cons (pv 0) pa_nil)) pa_nil)) (pe_bm PySem.F.plainAttrs_list PySem.F.slot_list_index PySem.F.type_list_index (mt_indexD (u65 hr)) (pv 0) (pa_cons (pe_callB (cr_minV rfl) (by rfl) B.n_min (by decide +kernel) (pa_cons (pv 0) pa_nil)) pa_nil))))
      (pss_one (ps_ret (pe_callTy cr_tupF (by rfl) B.n_tuple (by decide +kernel) (pa_cons (pe_op op_addU (pe_slice sl_U (pv 0) (po_some (pv 1)) po_none) (pe_slice sl_U (pv 0) po_none (po_some (pv 1)))) pa_nil))))
theorem eq_F_way_or_ring : F_way_or_ring = runP 3 7 X_way_or_ring := by unfold F_way_or_ring; rfl
theorem c_way_or_ring (F : Dfn K mg "way_or_ring" s_way_or_ring ["web", "left", "first"]) (B : Bm mg) (c_from_least : CalG P w K mg base 1 "from_least" (spF F_from_least)) : CalG P w K mg base 2 "way_or_ring" (spF F_way_or_ring) := by
  rw [eq_F_way_or_ring]
  refine cal_g F sc_way_or_ring (fun vs H Q E h => len_F h) (fun f cdv A outer s H E hG hr => ⟨T_way_or_ring, ?_, fun vs Q h => go_P (n := 3) (k := 7) ss_way_or_ring rfl h⟩)
  unfold T_way_or_ring
  exact pss_cons (ps_asg (pv 0) (PG.or (pg_tup rfl (pgs_cons (pg_name (i := 3) sc_way_or_ring.nd rfl (.inr rfl)) (pgs_cons (pg_name (i := 4) sc_way_or_ring.nd rfl (.inl rfl)) (pgs_cons (pg_name (i := 5) sc_way_or_ring.nd rfl (.inl rfl)) pgs_nil)))) (pg_unl rfl (pgs_cons (pg_name (i := 3) sc_way_or_ring.nd rfl (.inr rfl)) (pgs_cons (pg_name (i := 4) sc_way_or_ring.nd rfl (.inl rfl)) (pgs_cons (pg_name (i := 5) sc_way_or_ring.nd rfl (.inl rfl)) pgs_nil))))))
      (pss_cons (ps_set (i := 6) sc_way_or_ring.nd rfl (.inl rfl) (pe_lst (pa_cons (pv 2) pa_nil)))
      (pss_cons (ps_set (i := 7) sc_way_or_ring.nd rfl (.inl rfl) (pe_ix ix_seq (pe_ix ix_seq (pv 3) (pv 2) (fun _ _ => rfl)) pe_int (fun _ _ => rfl)))
      (pss_cons (ps_while PassesOwn.never (pt_cmpR op_notU (pv 7) pe_non (nomark _)) (pss_cons (ps_setLc (i := 8) (own := [("road", 9)]) rfl sc_way_or_ring.nd rfl rfl (sw_true rfl rfl rfl (by decide +kernel)) (PI.or (pi_list (pv 6)) (pi_tup (pv 6))) (blkOk_by (N := N_way_or_ring) (sc := defScope s_way_or_ring) (by decide +kernel)) (fun _ _ _ _ _ => (pg_name (i := 9) sc_way_or_ring.nd rfl (.inl rfl))) (fun _ _ _ _ _ => pts_nil) (fun _ _ _ _ _ => pe_ix ix_seq (pe_ix ix_seq (pv 3) (pv 9) (fun _ _ => rfl)) pe_int (fun _ _ => rfl)))
      (pss_cons (ps_if (pt_cmpR (op_inU (u65 hr)) (pv 7) (pv 8) (by rfl)) (pss_one (ps_ret (pe_g c_from_least hr (by decide) hG (by rfl) (pa_cons (pe_slice sl_U (pv 6) (po_some (PE.or (pe_bmF PySem.F.slot_tuple_index PySem.F.type_tuple_index (mt_indexF (u65 hr)) (pv 8) (pa_cons (pv 7) pa_nil)) (pe_bm PySem.F.plainAttrs_list PySem.F.slot_list_index PySem.F.type_list_index (mt_indexD (u65 hr)) (pv 8) (pa_cons (pv 7) pa_nil)))) po_none) pa_nil)))) pss_nil)
      (pss_cons (ps_expr (pe_bm PySem.F.plainAttrs_list PySem.F.slot_list_append PySem.F.type_list_append mt_append (pv 6) (pa_cons (pe_ix ix_seq (pe_lc (own := [("road", 9)]) rfl sc_way_or_ring.nd (PI.or (pi_list (pe_ix ix_seq (pv 4) (pv 7) (fun _ _ => rfl))) (pi_tup (pe_ix ix_seq (pv 4) (pv 7) (fun _ _ => rfl)))) (blkOk_by (N := N_way_or_ring) (sc := defScope s_way_or_ring) (by decide +kernel)) (fun _ _ _ _ _ => (pg_name (i := 9) sc_way_or_ring.nd rfl (.inl rfl))) (fun _ _ _ _ _ => pts_one (pt_cmpR (op_gtU hr.units) (pe_ix ix_seq (pv 1) (pv 9) (fun _ _ => rfl)) pe_int (nomark _))) (fun _ _ _ _ _ => (pv 9))) pe_int (fun _ _ => rfl)) pa_nil)))
      (pss_one (ps_set (i := 7) sc_way_or_ring.nd rfl (.inl rfl) (pe_ix ix_seq (pe_ix ix_seq (pv 3) (pe_ix ix_seq (pv 6) (pe_un un_neg pe_int) (fun _ _ => rfl)) (fun _ _ => rfl)) pe_int (fun _ _ => rfl))))))))
      (pss_one (ps_ret (pe_callTy cr_tupF (by rfl) B.n_tuple (by decide +kernel) (pa_cons (pv 6) pa_nil)))))))
theorem eq_F_bundle : F_bundle = runP 2 6 X_bundle := by unfold F_bundle; rfl
theorem c_bundle (F : Dfn K mg "bundle" s_bundle ["web", "stream"]) (B : Bm mg) (c_first_bearing : CalG P w K mg base 2 "first_bearing" (spF F_first_bearing)) (c_way_or_ring : CalG P w K mg base 2 "way_or_ring" (spF F_way_or_ring)) : CalG P w K mg base 3 "bundle" (spF F_bundle) := by
  rw [eq_F_bundle]
  refine cal_g F sc_bundle (fun vs H Q E h => len_F h) (fun f cdv A outer s H E hG hr => ⟨T_bundle, ?_, fun vs Q h => go_P (n := 2) (k := 6) ss_bundle rfl h⟩)
  unfold T_bundle
  exact pss_cons (ps_set (i := 2) sc_bundle.nd rfl (.inr rfl) (pe_callTy call_list_of (by rfl) B.n_list (by decide +kernel) (pa_cons (pv 1) pa_nil)))
      (pss_cons (ps_set (i := 3) sc_bundle.nd rfl (.inl rfl) (pe_lst pa_nil))
      (pss_cons (ps_set (i := 4) sc_bundle.nd rfl (.inl rfl) (pe_g c_first_bearing hr (by decide) hG (by rfl) (pa_cons (pv 0) (pa_cons (pv 2) pa_nil))))
      (pss_cons (ps_while PassesOwn.never (pt_cmpR op_notU (pv 4) pe_non (nomark _)) (pss_cons (ps_set (i := 5) sc_bundle.nd rfl (.inl rfl) (pe_g c_way_or_ring hr (by decide) hG (by rfl) (pa_cons (pv 0) (pa_cons (pv 2) (pa_cons (pv 4) pa_nil)))))
      (pss_cons (ps_set (i := 6) sc_bundle.nd rfl (.inl rfl) (pe_callB (cr_minV rfl) (by rfl) B.n_min (by decide +kernel) (pa_cons (pe_lc (own := [("road", 7)]) rfl sc_bundle.nd (PI.or (pi_list (pv 5)) (pi_tup (pv 5))) (blkOk_by (N := N_bundle) (sc := defScope s_bundle) (by decide +kernel)) (fun _ _ _ _ _ => (pg_name (i := 7) sc_bundle.nd rfl (.inl rfl))) (fun _ _ _ _ _ => pts_nil) (fun _ _ _ _ _ => pe_ix ix_seq (pv 2) (pv 7) (fun _ _ => rfl))) pa_nil)))
      (pss_cons (ps_expr (pe_bm PySem.F.plainAttrs_list PySem.F.slot_list_append PySem.F.type_list_append mt_append (pv 3) (pa_cons (pe_tupF (pa_cons (pv 5) (pa_cons (pv 6) pa_nil))) pa_nil)))
      (pss_cons (ps_for PassesOwn.never rfl (PI.or (pi_list (pv 5)) (pi_tup (pv 5))) (pg_name (i := 7) sc_bundle.nd rfl (.inl rfl)) (pss_one (ps_augS (pv 2) (pv 7) get_list (pv 6) ip_sub set_list)))
      (pss_one (ps_set (i := 4) sc_bundle.nd rfl (.inl rfl) (pe_g c_first_bearing hr (by decide) hG (by rfl) (pa_cons (pv 0) (pa_cons (pv 2) pa_nil))))))))))
      (pss_one (ps_ret (pe_callTy cr_tupF (by rfl) B.n_tuple (by decide +kernel) (pa_cons (pv 3) pa_nil)))))))
theorem eq_F_borne : F_borne = runP 2 1 X_borne := by unfold F_borne; rfl
theorem c_borne (F : Dfn K mg "borne" s_borne ["bears", "numbers"]) (B : Bm mg) : CalG P w K mg base 1 "borne" (spF F_borne) := by
  rw [eq_F_borne]
  refine cal_g F sc_borne (fun vs H Q E h => len_F h) (fun f cdv A outer s H E hG hr => ⟨T_borne, ?_, fun vs Q h => go_P (n := 2) (k := 1) ss_borne rfl h⟩)
  unfold T_borne
  exact pss_one (ps_ret (pe_callB (cr_sum rfl) (by rfl) B.n_sum (by decide +kernel) (pa_cons (pe_lc (own := [("number", 2)]) rfl sc_borne.nd (PI.or (pi_list (pv 1)) (pi_tup (pv 1))) (blkOk_by (N := N_borne) (sc := defScope s_borne) (by decide +kernel)) (fun _ _ _ _ _ => (pg_name (i := 2) sc_borne.nd rfl (.inl rfl))) (fun _ _ _ _ _ => pts_nil) (fun _ _ _ _ _ => pe_ix ix_seq (pv 0) (pv 2) (fun _ _ => rfl))) pa_nil)))
theorem eq_F_is_number : F_is_number = runP 1 0 X_is_number := by unfold F_is_number; rfl
theorem c_is_number (F : Dfn K mg "is_number" s_is_number ["thing"]) (B : Bm mg) : CalG P w K mg base 1 "is_number" (spF F_is_number) := by
  rw [eq_F_is_number]
  refine cal_g F sc_is_number (fun vs H Q E h => len_F h) (fun f cdv A outer s H E hG hr => ⟨T_is_number, ?_, fun vs Q h => go_P (n := 1) (k := 0) ss_is_number rfl h⟩)
  unfold T_is_number
  exact pss_one (ps_ret (pe_and (pe_callB call_isi (by rfl) B.n_isinstance (by decide +kernel) (pa_cons (pv 0) (pa_cons (pe_bltn (v := .ty "int") (by rfl) B.n_int (by decide +kernel) rfl) pa_nil))) (pe_one (pe_not (pe_callB call_isi (by rfl) B.n_isinstance (by decide +kernel) (pa_cons (pv 0) (pa_cons (pe_bltn (v := .ty "bool") (by rfl) B.n_bool (by decide +kernel) rfl) pa_nil)))))))
theorem eq_F_is_tuple_of : F_is_tuple_of = runP 3 0 X_is_tuple_of := by unfold F_is_tuple_of; rfl
theorem c_is_tuple_of (F : Dfn K mg "is_tuple_of" s_is_tuple_of ["thing", "least", "most"]) (B : Bm mg) : CalG P w K mg base 1 "is_tuple_of" (spF F_is_tuple_of) := by
  rw [eq_F_is_tuple_of]
  refine cal_g F sc_is_tuple_of (fun vs H Q E h => len_F h) (fun f cdv A outer s H E hG hr => ⟨T_is_tuple_of, ?_, fun vs Q h => go_P (n := 3) (k := 0) ss_is_tuple_of rfl h⟩)
  unfold T_is_tuple_of
  exact pss_one (ps_ret (pe_and (pe_callB call_isi (by rfl) B.n_isinstance (by decide +kernel) (pa_cons (pv 0) (pa_cons (pe_bltn (v := .ty "tuple") (by rfl) B.n_tuple (by decide +kernel) rfl) pa_nil))) (pe_one (pe_chain op_le op_le (pv 1) (pe_callB call_len_seq (by rfl) B.n_len (by decide +kernel) (pa_cons (pv 0) pa_nil)) (pv 2)))))
theorem eq_F_is_form : F_is_form = runP 2 1 X_is_form := by unfold F_is_form; rfl
theorem c_is_form (F : Dfn K mg "is_form" s_is_form ["thing", "many"]) (B : Bm mg) (c_is_number : CalG P w K mg base 1 "is_number" (spF F_is_number)) (c_is_tuple_of : CalG P w K mg base 1 "is_tuple_of" (spF F_is_tuple_of)) : CalG P w K mg base 2 "is_form" (spF F_is_form) := by
  rw [eq_F_is_form]
  refine cal_g F sc_is_form (fun vs H Q E h => len_F h) (fun f cdv A outer s H E hG hr => ⟨T_is_form, ?_, fun vs Q h => go_P (n := 2) (k := 1) ss_is_form rfl h⟩)
  unfold T_is_form
  exact pss_one (ps_ret (pe_and (pe_g c_is_tuple_of hr (by decide) hG (by rfl) (pa_cons (pv 0) (pa_cons (pv 1) (pa_cons (pv 1) pa_nil)))) (pe_one (pe_callB (cr_all rfl) (by rfl) B.n_all (by decide +kernel) (pa_cons (pe_lc (own := [("bears", 2)]) rfl sc_is_form.nd (PI.or (pi_list (pv 0)) (pi_tup (pv 0))) (blkOk_by (N := N_is_form) (sc := defScope s_is_form) (by decide +kernel)) (fun _ _ _ _ _ => (pg_name (i := 2) sc_is_form.nd rfl (.inl rfl))) (fun _ _ _ _ _ => pts_nil) (fun _ _ _ _ _ => pe_and (pe_g c_is_number hr (by decide) hG (by rfl) (pa_cons (pv 2) pa_nil)) (pe_one (pe_cmpR op_ge (pv 2) pe_int (nomark _))))) pa_nil)))))
theorem eq_F_streamfault : F_streamfault = runP 2 7 X_streamfault := by unfold F_streamfault; rfl
theorem c_streamfault (F : Dfn K mg "streamfault" s_streamfault ["web", "thing"]) (B : Bm mg) (c_borne : CalG P w K mg base 1 "borne" (spF F_borne)) (c_is_form : CalG P w K mg base 2 "is_form" (spF F_is_form)) : CalG P w K mg base 3 "streamfault" (spF F_streamfault) := by
  rw [eq_F_streamfault]
  refine cal_g F sc_streamfault (fun vs H Q E h => len_F h) (fun f cdv A outer s H E hG hr => ⟨T_streamfault, ?_, fun vs Q h => go_P (n := 2) (k := 7) ss_streamfault rfl h⟩)
  unfold T_streamfault
  exact pss_cons (ps_asg (pv 0) (PG.or (pg_tup rfl (pgs_cons (pg_name (i := 2) sc_streamfault.nd rfl (.inl rfl)) (pgs_cons (pg_name (i := 3) sc_streamfault.nd rfl (.inl rfl)) (pgs_cons (pg_name (i := 4) sc_streamfault.nd rfl (.inl rfl)) pgs_nil)))) (pg_unl rfl (pgs_cons (pg_name (i := 2) sc_streamfault.nd rfl (.inl rfl)) (pgs_cons (pg_name (i := 3) sc_streamfault.nd rfl (.inl rfl)) (pgs_cons (pg_name (i := 4) sc_streamfault.nd rfl (.inl rfl)) pgs_nil))))))
      (pss_cons (ps_if (pt_not (pt_val (pe_g c_is_form hr (by decide) hG (by rfl) (pa_cons (pv 1) (pa_cons (pe_callB call_len_seq (by rfl) B.n_len (by decide +kernel) (pa_cons (pv 2) pa_nil)) pa_nil))))) (pss_one (ps_ret (pe_tupF (pa_cons pe_str pa_nil)))) pss_nil)
      (pss_cons (ps_for PassesOwn.never rfl (PI.or (pi_enum (by rfl) B.n_enumerate (pa_cons (pv 1) pa_nil)) (Un.pi_enumT (by rfl) B.n_enumerate (pa_cons (pv 1) pa_nil))) (PG.or (pg_tup rfl (pgs_cons (pg_name (i := 5) sc_streamfault.nd rfl (.inl rfl)) (pgs_cons (pg_name (i := 6) sc_streamfault.nd rfl (.inl rfl)) pgs_nil))) (pg_unl rfl (pgs_cons (pg_name (i := 5) sc_streamfault.nd rfl (.inl rfl)) (pgs_cons (pg_name (i := 6) sc_streamfault.nd rfl (.inl rfl)) pgs_nil)))) (pss_one (ps_if (pt_cmpR (op_gtU hr.units) (pv 6) (pe_ix ix_seq (pe_ix ix_seq (pv 2) (pv 5) (fun _ _ => rfl)) pe_int (fun _ _ => rfl)) (nomark _)) (pss_one (ps_ret (pe_tupF (pa_cons pe_str (pa_cons (pv 5) pa_nil))))) pss_nil)))
      (pss_cons (ps_for PassesOwn.never rfl (PI.or (pi_enum (by rfl) B.n_enumerate (pa_cons (pv 3) pa_nil)) (Un.pi_enumT (by rfl) B.n_enumerate (pa_cons (pv 3) pa_nil))) (PG.or (pg_tup rfl (pgs_cons (pg_name (i := 7) sc_streamfault.nd rfl (.inl rfl)) (pgs_cons (pg_name (i := 8) sc_streamfault.nd rfl (.inl rfl)) pgs_nil))) (pg_unl rfl (pgs_cons (pg_name (i := 7) sc_streamfault.nd rfl (.inl rfl)) (pgs_cons (pg_name (i := 8) sc_streamfault.nd rfl (.inl rfl)) pgs_nil)))) (pss_one (ps_if (pt_cmpR (op_neD hr.units) (pe_g c_borne hr (by decide) hG (by rfl) (pa_cons (pv 1) (pa_cons (pe_ix ix_seq (pv 4) (pv 7) (fun _ _ => rfl)) pa_nil))) (pe_g c_borne hr (by decide) hG (by rfl) (pa_cons (pv 1) (pa_cons (pv 8) pa_nil))) (nomark _)) (pss_one (ps_ret (pe_tupF (pa_cons pe_str (pa_cons (pv 7) pa_nil))))) pss_nil)))
      (pss_one (ps_ret pe_non)))))
theorem eq_F_worth : F_worth = runP 2 0 X_worth := by unfold F_worth; rfl
theorem c_worth (F : Dfn K mg "worth" s_worth ["web", "stream"]) (B : Bm mg) (c_borne : CalG P w K mg base 1 "borne" (spF F_borne)) (c_in_doors : CalG P w K mg base 1 "in_doors" (spF F_in_doors)) : CalG P w K mg base 2 "worth" (spF F_worth) := by
  rw [eq_F_worth]
  refine cal_g F sc_worth (fun vs H Q E h => len_F h) (fun f cdv A outer s H E hG hr => ⟨T_worth, ?_, fun vs Q h => go_P (n := 2) (k := 0) ss_worth rfl h⟩)
  unfold T_worth
  exact pss_one (ps_ret (pe_g c_borne hr (by decide) hG (by rfl) (pa_cons (pv 1) (pa_cons (pe_g c_in_doors hr (by decide) hG (by rfl) (pa_cons (pv 0) pa_nil)) pa_nil))))
theorem eq_F_law_z92 : F_law_z92 = runP 1 12 X_law_z92 := by unfold F_law_z92; rfl
theorem ok_law {f : Addr} {fd : FuncData} (F : Fun K "law" "law" s_law f fd) (B : Bm mg) (c__law_deck : CalG P w K mg base 1 "_law_deck" (spD F__law_deck_h)) (c__law_next : CalG P w K mg base 1 "_law_next" (spW F__law_next)) (c__law_stream : CalG P w K mg base 4 "_law_stream" (spW F__law_stream_f)) (c__law_web : CalG P w K mg base 5 "_law_web" (spW F__law_web)) (c_bundle : CalG P w K mg base 3 "bundle" (spF F_bundle)) (c_streamfault : CalG P w K mg base 3 "streamfault" (spF F_streamfault)) (c_worth : CalG P w K mg base 2 "worth" (spF F_worth)) : FnG P w K mg base 6 f fd ["_law_script"] (spF F_law_z92) := by
  rw [eq_F_law_z92]
  refine fn_g F sc_law (fun vs H Q E h => len_F h) (fun cdv A outer s H E hG hr => ⟨T_law_z92, ?_, fun vs Q h => go_P (n := 1) (k := 12) ss_law_z92 rfl h⟩)
  unfold T_law_z92
  exact pss_cons (ps_set (i := 1) sc_law.nd rfl (.inl rfl) (pe_g c__law_deck hr (by decide) hG (by rfl) (pa_cons (pv 0) pa_nil)))
      (pss_cons (ps_for PassesOwn.never rfl (pi_range1 (by rfl) B.n_range (pa_cons pe_int pa_nil)) (pg_name (i := 2) sc_law.nd rfl (.inl rfl)) (pss_cons (ps_set (i := 3) sc_law.nd rfl (.inl rfl) (pe_g c__law_web hr (by decide) hG (by rfl) (pa_cons (pv 1) (pa_cons pe_int (pa_cons pe_int (pa_cons (pe_cmpR (op_eqD hr.units) (pe_g c__law_next hr (by decide) hG (by rfl) (pa_cons (pv 1) (pa_cons pe_int pa_nil))) pe_int (nomark _)) pa_nil))))))
      (pss_cons (ps_set (i := 4) sc_law.nd rfl (.inr rfl) (pe_g c__law_stream hr (by decide) hG (by rfl) (pa_cons (pv 1) (pa_cons (pv 3) (pa_cons (pe_g c__law_next hr (by decide) hG (by rfl) (pa_cons (pv 1) (pa_cons pe_int pa_nil))) pa_nil)))))
      (pss_cons (ps_par (i := 5) (j := 6) rfl sc_law.nd rfl rfl (by decide) rfl rfl (pa_cons (pe_op op_mulV (pe_lst (pa_cons pe_int pa_nil)) (pe_callB call_len_seq (by rfl) B.n_len (by decide +kernel) (pa_cons (pv 4) pa_nil))) (pa_cons pe_int pa_nil)) rfl)
      (pss_cons (ps_for PassesOwn.never rfl (PI.or (pi_list (pe_g c_bundle hr (by decide) hG (by rfl) (pa_cons (pv 3) (pa_cons (pv 4) pa_nil)))) (pi_tup (pe_g c_bundle hr (by decide) hG (by rfl) (pa_cons (pv 3) (pa_cons (pv 4) pa_nil))))) (PG.or (pg_tup rfl (pgs_cons (pg_name (i := 7) sc_law.nd rfl (.inl rfl)) (pgs_cons (pg_name (i := 8) sc_law.nd rfl (.inl rfl)) pgs_nil))) (pg_unl rfl (pgs_cons (pg_name (i := 7) sc_law.nd rfl (.inl rfl)) (pgs_cons (pg_name (i := 8) sc_law.nd rfl (.inl rfl)) pgs_nil)))) (pss_cons (ps_set (i := 9) sc_law.nd rfl (.inl rfl) (pe_g c__law_next hr (by decide) hG (by rfl) (pa_cons (pv 1) (pa_cons (pe_op op_addU (pv 8) pe_int) pa_nil))))
      (pss_cons (ps_if (pt_cmpR op_isU (pe_ix ix_seq (pe_ix ix_seq (pe_ix ix_seq (pv 3) pe_int (fun _ _ => rfl)) (pe_ix ix_seq (pv 7) pe_int (fun _ _ => rfl)) (fun _ _ => rfl)) pe_int (fun _ _ => rfl)) pe_non (nomark _)) (pss_one (ps_set (i := 6) sc_law.nd rfl (.inl rfl) (pe_op op_addU (pv 6) (pv 9)))) pss_nil)
      (pss_one (ps_for PassesOwn.never rfl (PI.or (pi_list (pv 7)) (pi_tup (pv 7))) (pg_name (i := 10) sc_law.nd rfl (.inl rfl)) (pss_one (ps_asg (pe_op op_addU (pe_ix ix_seq (pv 5) (pv 10) (fun _ _ => rfl)) (pv 9)) (pg_sub (pv 5) (pv 10) set_list))))))))
      (pss_cons (ps_set (i := 11) sc_law.nd rfl (.inr rfl) (pe_callTy cr_tupF (by rfl) B.n_tuple (by decide +kernel) (pa_cons (pv 5) pa_nil)))
      (pss_cons (ps_set (i := 12) sc_law.nd rfl (.inl rfl) (pe_callTy cr_tupF (by rfl) B.n_tuple (by decide +kernel) (pa_cons (pe_lc (own := [("_law_k", 10)]) rfl sc_law.nd (pi_range1 (by rfl) B.n_range (pa_cons (pe_callB call_len_seq (by rfl) B.n_len (by decide +kernel) (pa_cons (pv 4) pa_nil)) pa_nil)) (blkOk_by (N := N_law) (sc := defScope s_law) (by decide +kernel)) (fun _ _ _ _ _ => (pg_name (i := 10) sc_law.nd rfl (.inl rfl))) (fun _ _ _ _ _ => pts_nil) (fun _ _ _ _ _ => pe_op op_sub (pe_ix ix_seq (pv 4) (pv 10) (fun _ _ => rfl)) (pe_ix ix_seq (pv 11) (pv 10) (fun _ _ => rfl)))) pa_nil)))
      (pss_cons (ps_if (PW.pt (pw_or (pt_cmpR op_notU (pe_g c_streamfault hr (by decide) hG (by rfl) (pa_cons (pv 3) (pa_cons (pv 11) pa_nil))) pe_non (nomark _)) (pw_or1 (pt_cmpR op_notU (pe_g c_streamfault hr (by decide) hG (by rfl) (pa_cons (pv 3) (pa_cons (pv 12) pa_nil))) pe_non (nomark _))))) (pss_one (ps_ret pe_bl)) pss_nil)
      (pss_cons (ps_if (pt_cmpR (op_neD hr.units) (pe_g c_worth hr (by decide) hG (by rfl) (pa_cons (pv 3) (pa_cons (pv 11) pa_nil))) (pv 6) (nomark _)) (pss_one (ps_ret pe_bl)) pss_nil)
      (pss_one (ps_if (pt_cmpR (op_neD hr.units) (pe_op op_addU (pe_g c_worth hr (by decide) hG (by rfl) (pa_cons (pv 3) (pa_cons (pv 11) pa_nil))) (pe_g c_worth hr (by decide) hG (by rfl) (pa_cons (pv 3) (pa_cons (pv 12) pa_nil)))) (pe_g c_worth hr (by decide) hG (by rfl) (pa_cons (pv 3) (pa_cons (pv 4) pa_nil))) (nomark _)) (pss_one (ps_ret pe_bl)) pss_nil)))))))))))
      (pss_one (ps_ret pe_bl)))
end
theorem all_mk {l : PySem.W.OpenLaw} {w : World} {K : PySem.W.Frag} {h : Heap} {mg : Str → Option Value} {fa : Addr} (X : K.In h) (G : h.Ns mainGlobals mg) (hfa : mg "law" = some (.ref fa))
    {f0 : Addr} {od0 an0 : Option Addr} {sl0 : Array (Option Value)} {oc0 kV0 dc0 pm0 cd0 ct0 : Value}
    {f1 : Addr} {od1 an1 : Option Addr} {sl1 : Array (Option Value)} {oc1 kV1 dc1 pm1 cd1 ct1 : Value}
    {f2 : Addr} {od2 an2 : Option Addr} {sl2 : Array (Option Value)} {oc2 kV2 dc2 pm2 cd2 ct2 : Value}
    {f3 : Addr} {od3 an3 : Option Addr} {sl3 : Array (Option Value)} {oc3 kV3 dc3 pm3 cd3 ct3 : Value}
    {f4 : Addr} {od4 an4 : Option Addr} {sl4 : Array (Option Value)} {oc4 kV4 dc4 pm4 cd4 ct4 : Value}
    {f5 : Addr} {od5 an5 : Option Addr} {sl5 : Array (Option Value)} {oc5 kV5 dc5 pm5 cd5 ct5 : Value}
    {f6 : Addr} {od6 an6 : Option Addr} {sl6 : Array (Option Value)} {oc6 kV6 dc6 pm6 cd6 ct6 : Value}
    {f7 : Addr} {od7 an7 : Option Addr} {sl7 : Array (Option Value)} {oc7 kV7 dc7 pm7 cd7 ct7 : Value}
    {f8 : Addr} {od8 an8 : Option Addr} {sl8 : Array (Option Value)} {oc8 kV8 dc8 pm8 cd8 ct8 : Value}
    {f9 : Addr} {od9 an9 : Option Addr} {sl9 : Array (Option Value)} {oc9 kV9 dc9 pm9 cd9 ct9 : Value}
    {f10 : Addr} {od10 an10 : Option Addr} {sl10 : Array (Option Value)} {oc10 kV10 dc10 pm10 cd10 ct10 : Value}
    {f11 : Addr} {od11 an11 : Option Addr} {sl11 : Array (Option Value)} {oc11 kV11 dc11 pm11 cd11 ct11 : Value}
    {f12 : Addr} {od12 an12 : Option Addr} {sl12 : Array (Option Value)} {oc12 kV12 dc12 pm12 cd12 ct12 : Value}
    {f13 : Addr} {od13 an13 : Option Addr} {sl13 : Array (Option Value)} {oc13 kV13 dc13 pm13 cd13 ct13 : Value}
    {f14 : Addr} {od14 an14 : Option Addr} {sl14 : Array (Option Value)} {oc14 kV14 dc14 pm14 cd14 ct14 : Value}
    {f15 : Addr} {od15 an15 : Option Addr} {sl15 : Array (Option Value)} {oc15 kV15 dc15 pm15 cd15 ct15 : Value}
    {f16 : Addr} {od16 an16 : Option Addr} {sl16 : Array (Option Value)} {oc16 kV16 dc16 pm16 cd16 ct16 : Value}
    {f17 : Addr} {od17 an17 : Option Addr} {sl17 : Array (Option Value)} {oc17 kV17 dc17 pm17 cd17 ct17 : Value}
    {f18 : Addr} {od18 an18 : Option Addr} {sl18 : Array (Option Value)} {oc18 kV18 dc18 pm18 cd18 ct18 : Value}
    {f19 : Addr} {od19 an19 : Option Addr} {sl19 : Array (Option Value)} {oc19 kV19 dc19 pm19 cd19 ct19 : Value}
    {f20 : Addr} {od20 an20 : Option Addr} {sl20 : Array (Option Value)} {oc20 kV20 dc20 pm20 cd20 ct20 : Value}
    (a0 : PySem.W.nsIn K mainGlobals "_law_deck" = some (some (.ref f0))) (l0 : K.lookup f0 = some ⟨oc0, od0, .func (PySem.W.fnOf "_law_deck" "_law_deck" (defArgs s__law_deck) (defBody s__law_deck) (defScope s__law_deck) .none kV0 dc0 pm0 an0 cd0 ct0), sl0⟩) (c0 : PySem.W.codeIn K cd0 "_law_deck" = true) (k0 : PySem.W.keepIn K (.ref f0) = true)
    (a1 : PySem.W.nsIn K mainGlobals "_law_next" = some (some (.ref f1))) (l1 : K.lookup f1 = some ⟨oc1, od1, .func (PySem.W.fnOf "_law_next" "_law_next" (defArgs s__law_next) (defBody s__law_next) (defScope s__law_next) .none kV1 dc1 pm1 an1 cd1 ct1), sl1⟩) (c1 : PySem.W.codeIn K cd1 "_law_next" = true) (k1 : PySem.W.keepIn K (.ref f1) = true)
    (a2 : PySem.W.nsIn K mainGlobals "_law_one" = some (some (.ref f2))) (l2 : K.lookup f2 = some ⟨oc2, od2, .func (PySem.W.fnOf "_law_one" "_law_one" (defArgs s__law_one) (defBody s__law_one) (defScope s__law_one) .none kV2 dc2 pm2 an2 cd2 ct2), sl2⟩) (c2 : PySem.W.codeIn K cd2 "_law_one" = true) (k2 : PySem.W.keepIn K (.ref f2) = true)
    (a3 : PySem.W.nsIn K mainGlobals "_law_round" = some (some (.ref f3))) (l3 : K.lookup f3 = some ⟨oc3, od3, .func (PySem.W.fnOf "_law_round" "_law_round" (defArgs s__law_round) (defBody s__law_round) (defScope s__law_round) .none kV3 dc3 pm3 an3 cd3 ct3), sl3⟩) (c3 : PySem.W.codeIn K cd3 "_law_round" = true) (k3 : PySem.W.keepIn K (.ref f3) = true)
    (a4 : PySem.W.nsIn K mainGlobals "_law_stream" = some (some (.ref f4))) (l4 : K.lookup f4 = some ⟨oc4, od4, .func (PySem.W.fnOf "_law_stream" "_law_stream" (defArgs s__law_stream) (defBody s__law_stream) (defScope s__law_stream) .none kV4 dc4 pm4 an4 cd4 ct4), sl4⟩) (c4 : PySem.W.codeIn K cd4 "_law_stream" = true) (k4 : PySem.W.keepIn K (.ref f4) = true)
    (a5 : PySem.W.nsIn K mainGlobals "_law_order" = some (some (.ref f5))) (l5 : K.lookup f5 = some ⟨oc5, od5, .func (PySem.W.fnOf "_law_order" "_law_order" (defArgs s__law_order) (defBody s__law_order) (defScope s__law_order) .none kV5 dc5 pm5 an5 cd5 ct5), sl5⟩) (c5 : PySem.W.codeIn K cd5 "_law_order" = true) (k5 : PySem.W.keepIn K (.ref f5) = true)
    (a6 : PySem.W.nsIn K mainGlobals "_law_room" = some (some (.ref f6))) (l6 : K.lookup f6 = some ⟨oc6, od6, .func (PySem.W.fnOf "_law_room" "_law_room" (defArgs s__law_room) (defBody s__law_room) (defScope s__law_room) .none kV6 dc6 pm6 an6 cd6 ct6), sl6⟩) (c6 : PySem.W.codeIn K cd6 "_law_room" = true) (k6 : PySem.W.keepIn K (.ref f6) = true)
    (a7 : PySem.W.nsIn K mainGlobals "_law_road" = some (some (.ref f7))) (l7 : K.lookup f7 = some ⟨oc7, od7, .func (PySem.W.fnOf "_law_road" "_law_road" (defArgs s__law_road) (defBody s__law_road) (defScope s__law_road) .none kV7 dc7 pm7 an7 cd7 ct7), sl7⟩) (c7 : PySem.W.codeIn K cd7 "_law_road" = true) (k7 : PySem.W.keepIn K (.ref f7) = true)
    (a8 : PySem.W.nsIn K mainGlobals "_law_web" = some (some (.ref f8))) (l8 : K.lookup f8 = some ⟨oc8, od8, .func (PySem.W.fnOf "_law_web" "_law_web" (defArgs s__law_web) (defBody s__law_web) (defScope s__law_web) .none kV8 dc8 pm8 an8 cd8 ct8), sl8⟩) (c8 : PySem.W.codeIn K cd8 "_law_web" = true) (k8 : PySem.W.keepIn K (.ref f8) = true)
    (a9 : PySem.W.nsIn K mainGlobals "in_doors" = some (some (.ref f9))) (l9 : K.lookup f9 = some ⟨oc9, od9, .func (PySem.W.fnOf "in_doors" "in_doors" (defArgs s_in_doors) (defBody s_in_doors) (defScope s_in_doors) .none kV9 dc9 pm9 an9 cd9 ct9), sl9⟩) (c9 : PySem.W.codeIn K cd9 "in_doors" = true) (k9 : PySem.W.keepIn K (.ref f9) = true)
    (a10 : PySem.W.nsIn K mainGlobals "first_bearing" = some (some (.ref f10))) (l10 : K.lookup f10 = some ⟨oc10, od10, .func (PySem.W.fnOf "first_bearing" "first_bearing" (defArgs s_first_bearing) (defBody s_first_bearing) (defScope s_first_bearing) .none kV10 dc10 pm10 an10 cd10 ct10), sl10⟩) (c10 : PySem.W.codeIn K cd10 "first_bearing" = true) (k10 : PySem.W.keepIn K (.ref f10) = true)
    (a11 : PySem.W.nsIn K mainGlobals "from_least" = some (some (.ref f11))) (l11 : K.lookup f11 = some ⟨oc11, od11, .func (PySem.W.fnOf "from_least" "from_least" (defArgs s_from_least) (defBody s_from_least) (defScope s_from_least) .none kV11 dc11 pm11 an11 cd11 ct11), sl11⟩) (c11 : PySem.W.codeIn K cd11 "from_least" = true) (k11 : PySem.W.keepIn K (.ref f11) = true)
    (a12 : PySem.W.nsIn K mainGlobals "way_or_ring" = some (some (.ref f12))) (l12 : K.lookup f12 = some ⟨oc12, od12, .func (PySem.W.fnOf "way_or_ring" "way_or_ring" (defArgs s_way_or_ring) (defBody s_way_or_ring) (defScope s_way_or_ring) .none kV12 dc12 pm12 an12 cd12 ct12), sl12⟩) (c12 : PySem.W.codeIn K cd12 "way_or_ring" = true) (k12 : PySem.W.keepIn K (.ref f12) = true)
    (a13 : PySem.W.nsIn K mainGlobals "bundle" = some (some (.ref f13))) (l13 : K.lookup f13 = some ⟨oc13, od13, .func (PySem.W.fnOf "bundle" "bundle" (defArgs s_bundle) (defBody s_bundle) (defScope s_bundle) .none kV13 dc13 pm13 an13 cd13 ct13), sl13⟩) (c13 : PySem.W.codeIn K cd13 "bundle" = true) (k13 : PySem.W.keepIn K (.ref f13) = true)
    (a14 : PySem.W.nsIn K mainGlobals "borne" = some (some (.ref f14))) (l14 : K.lookup f14 = some ⟨oc14, od14, .func (PySem.W.fnOf "borne" "borne" (defArgs s_borne) (defBody s_borne) (defScope s_borne) .none kV14 dc14 pm14 an14 cd14 ct14), sl14⟩) (c14 : PySem.W.codeIn K cd14 "borne" = true) (k14 : PySem.W.keepIn K (.ref f14) = true)
    (a15 : PySem.W.nsIn K mainGlobals "is_number" = some (some (.ref f15))) (l15 : K.lookup f15 = some ⟨oc15, od15, .func (PySem.W.fnOf "is_number" "is_number" (defArgs s_is_number) (defBody s_is_number) (defScope s_is_number) .none kV15 dc15 pm15 an15 cd15 ct15), sl15⟩) (c15 : PySem.W.codeIn K cd15 "is_number" = true) (k15 : PySem.W.keepIn K (.ref f15) = true)
    (a16 : PySem.W.nsIn K mainGlobals "is_tuple_of" = some (some (.ref f16))) (l16 : K.lookup f16 = some ⟨oc16, od16, .func (PySem.W.fnOf "is_tuple_of" "is_tuple_of" (defArgs s_is_tuple_of) (defBody s_is_tuple_of) (defScope s_is_tuple_of) .none kV16 dc16 pm16 an16 cd16 ct16), sl16⟩) (c16 : PySem.W.codeIn K cd16 "is_tuple_of" = true) (k16 : PySem.W.keepIn K (.ref f16) = true)
    (a17 : PySem.W.nsIn K mainGlobals "is_form" = some (some (.ref f17))) (l17 : K.lookup f17 = some ⟨oc17, od17, .func (PySem.W.fnOf "is_form" "is_form" (defArgs s_is_form) (defBody s_is_form) (defScope s_is_form) .none kV17 dc17 pm17 an17 cd17 ct17), sl17⟩) (c17 : PySem.W.codeIn K cd17 "is_form" = true) (k17 : PySem.W.keepIn K (.ref f17) = true)
    (a18 : PySem.W.nsIn K mainGlobals "streamfault" = some (some (.ref f18))) (l18 : K.lookup f18 = some ⟨oc18, od18, .func (PySem.W.fnOf "streamfault" "streamfault" (defArgs s_streamfault) (defBody s_streamfault) (defScope s_streamfault) .none kV18 dc18 pm18 an18 cd18 ct18), sl18⟩) (c18 : PySem.W.codeIn K cd18 "streamfault" = true) (k18 : PySem.W.keepIn K (.ref f18) = true)
    (a19 : PySem.W.nsIn K mainGlobals "worth" = some (some (.ref f19))) (l19 : K.lookup f19 = some ⟨oc19, od19, .func (PySem.W.fnOf "worth" "worth" (defArgs s_worth) (defBody s_worth) (defScope s_worth) .none kV19 dc19 pm19 an19 cd19 ct19), sl19⟩) (c19 : PySem.W.codeIn K cd19 "worth" = true) (k19 : PySem.W.keepIn K (.ref f19) = true)
    (a20 : PySem.W.nsIn K mainGlobals "law" = some (some (.ref f20))) (l20 : K.lookup f20 = some ⟨oc20, od20, .func (PySem.W.fnOf "law" "law" (defArgs s_law) (defBody s_law) (defScope s_law) .none kV20 dc20 pm20 an20 cd20 ct20), sl20⟩) (c20 : PySem.W.codeIn K cd20 "law" = true) (k20 : PySem.W.keepIn K (.ref f20) = true)
    (z_abs : PySem.W.nsIn K mainGlobals "abs" = some none)
    (z_all : PySem.W.nsIn K mainGlobals "all" = some none)
    (z_bool : PySem.W.nsIn K mainGlobals "bool" = some none)
    (z_enumerate : PySem.W.nsIn K mainGlobals "enumerate" = some none)
    (z_int : PySem.W.nsIn K mainGlobals "int" = some none)
    (z_isinstance : PySem.W.nsIn K mainGlobals "isinstance" = some none)
    (z_len : PySem.W.nsIn K mainGlobals "len" = some none)
    (z_list : PySem.W.nsIn K mainGlobals "list" = some none)
    (z_min : PySem.W.nsIn K mainGlobals "min" = some none)
    (z_range : PySem.W.nsIn K mainGlobals "range" = some none)
    (z_sum : PySem.W.nsIn K mainGlobals "sum" = some none)
    (z_tuple : PySem.W.nsIn K mainGlobals "tuple" = some none) :
    ∃ fd : FuncData, (∀ (s : Shared) (v : Value), BindsTo s fd ⟨[v], []⟩ [("_law_script", v)]) ∧ ∀ base : Heap, K.In base → base.Ns mainGlobals mg → FnG l.prog w K mg base 6 fa fd ["_law_script"] (@spF ⟨K⟩ F_law_z92) := by
  letI : KK := ⟨K⟩
  have e := hfa.symm.trans (PySem.W.mg_of X G a20)
  cases e
  have B : Bm mg := ⟨PySem.W.mg_none_of X G z_abs, PySem.W.mg_none_of X G z_all, PySem.W.mg_none_of X G z_bool, PySem.W.mg_none_of X G z_enumerate, PySem.W.mg_none_of X G z_int, PySem.W.mg_none_of X G z_isinstance, PySem.W.mg_none_of X G z_len, PySem.W.mg_none_of X G z_list, PySem.W.mg_none_of X G z_min, PySem.W.mg_none_of X G z_range, PySem.W.mg_none_of X G z_sum, PySem.W.mg_none_of X G z_tuple⟩
  have D0 : Dfn K mg "_law_deck" s__law_deck ["_law_script"] := dfn_mk X G a0 l0 c0 k0 fun _ _ _ _ _ _ us hl => match us, hl with | [_], _ => rfl
  have D1 : Dfn K mg "_law_next" s__law_next ["_law_deck_here", "_law_many"] := dfn_mk X G a1 l1 c1 k1 fun _ _ _ _ _ _ us hl => match us, hl with | [_, _], _ => rfl
  have D2 : Dfn K mg "_law_one" s__law_one ["_law_deck_here", "_law_some"] := dfn_mk X G a2 l2 c2 k2 fun _ _ _ _ _ _ us hl => match us, hl with | [_, _], _ => rfl
  have D3 : Dfn K mg "_law_round" s__law_round ["_law_deck_here", "_law_web_here", "_law_bears"] := dfn_mk X G a3 l3 c3 k3 fun _ _ _ _ _ _ us hl => match us, hl with | [_, _, _], _ => rfl
  have D4 : Dfn K mg "_law_stream" s__law_stream ["_law_deck_here", "_law_web_here", "_law_several"] := dfn_mk X G a4 l4 c4 k4 fun _ _ _ _ _ _ us hl => match us, hl with | [_, _, _], _ => rfl
  have D5 : Dfn K mg "_law_order" s__law_order ["_law_deck_here", "_law_numbers"] := dfn_mk X G a5 l5 c5 k5 fun _ _ _ _ _ _ us hl => match us, hl with | [_, _], _ => rfl
  have D6 : Dfn K mg "_law_room" s__law_room ["_law_deck_here", "_law_far"] := dfn_mk X G a6 l6 c6 k6 fun _ _ _ _ _ _ us hl => match us, hl with | [_, _], _ => rfl
  have D7 : Dfn K mg "_law_road" s__law_road ["_law_deck_here", "_law_houses", "_law_far"] := dfn_mk X G a7 l7 c7 k7 fun _ _ _ _ _ _ us hl => match us, hl with | [_, _, _], _ => rfl
  have D8 : Dfn K mg "_law_web" s__law_web ["_law_deck_here", "_law_houses", "_law_roads", "_law_far"] := dfn_mk X G a8 l8 c8 k8 fun _ _ _ _ _ _ us hl => match us, hl with | [_, _, _, _], _ => rfl
  have D9 : Dfn K mg "in_doors" s_in_doors ["web"] := dfn_mk X G a9 l9 c9 k9 fun _ _ _ _ _ _ us hl => match us, hl with | [_], _ => rfl
  have D10 : Dfn K mg "first_bearing" s_first_bearing ["web", "left"] := dfn_mk X G a10 l10 c10 k10 fun _ _ _ _ _ _ us hl => match us, hl with | [_, _], _ => rfl
  have D11 : Dfn K mg "from_least" s_from_least ["ring"] := dfn_mk X G a11 l11 c11 k11 fun _ _ _ _ _ _ us hl => match us, hl with | [_], _ => rfl
  have D12 : Dfn K mg "way_or_ring" s_way_or_ring ["web", "left", "first"] := dfn_mk X G a12 l12 c12 k12 fun _ _ _ _ _ _ us hl => match us, hl with | [_, _, _], _ => rfl
  have D13 : Dfn K mg "bundle" s_bundle ["web", "stream"] := dfn_mk X G a13 l13 c13 k13 fun _ _ _ _ _ _ us hl => match us, hl with | [_, _], _ => rfl
  have D14 : Dfn K mg "borne" s_borne ["bears", "numbers"] := dfn_mk X G a14 l14 c14 k14 fun _ _ _ _ _ _ us hl => match us, hl with | [_, _], _ => rfl
  have D15 : Dfn K mg "is_number" s_is_number ["thing"] := dfn_mk X G a15 l15 c15 k15 fun _ _ _ _ _ _ us hl => match us, hl with | [_], _ => rfl
  have D16 : Dfn K mg "is_tuple_of" s_is_tuple_of ["thing", "least", "most"] := dfn_mk X G a16 l16 c16 k16 fun _ _ _ _ _ _ us hl => match us, hl with | [_, _, _], _ => rfl
  have D17 : Dfn K mg "is_form" s_is_form ["thing", "many"] := dfn_mk X G a17 l17 c17 k17 fun _ _ _ _ _ _ us hl => match us, hl with | [_, _], _ => rfl
  have D18 : Dfn K mg "streamfault" s_streamfault ["web", "thing"] := dfn_mk X G a18 l18 c18 k18 fun _ _ _ _ _ _ us hl => match us, hl with | [_, _], _ => rfl
  have D19 : Dfn K mg "worth" s_worth ["web", "stream"] := dfn_mk X G a19 l19 c19 k19 fun _ _ _ _ _ _ us hl => match us, hl with | [_, _], _ => rfl
  refine ⟨PySem.W.fnOf "law" "law" (defArgs s_law) (defBody s_law) (defScope s_law) .none kV20 dc20 pm20 an20 cd20 ct20, fun s v => .of_eq rfl, fun base _ _ => ?_⟩
  have C__law_deck := c__law_deck (P := l.prog) (w := w) (base := base) D0 B 
  have C__law_next := c__law_next (P := l.prog) (w := w) (base := base) D1 B 
  have C__law_one := c__law_one (P := l.prog) (w := w) (base := base) D2 B C__law_next
  have C__law_round := c__law_round (P := l.prog) (w := w) (base := base) D3 B C__law_next C__law_one
  have C__law_stream := c__law_stream (P := l.prog) (w := w) (base := base) D4 B C__law_next C__law_one C__law_round
  have C__law_order := c__law_order (P := l.prog) (w := w) (base := base) D5 B C__law_next
  have C__law_room := c__law_room (P := l.prog) (w := w) (base := base) D6 B C__law_next C__law_one
  have C__law_road := c__law_road (P := l.prog) (w := w) (base := base) D7 B C__law_next C__law_room
  have C__law_web := c__law_web (P := l.prog) (w := w) (base := base) D8 B C__law_next C__law_order C__law_road
  have C_in_doors := c_in_doors (P := l.prog) (w := w) (base := base) D9 B 
  have C_first_bearing := c_first_bearing (P := l.prog) (w := w) (base := base) D10 B C_in_doors
  have C_from_least := c_from_least (P := l.prog) (w := w) (base := base) D11 B 
  have C_way_or_ring := c_way_or_ring (P := l.prog) (w := w) (base := base) D12 B C_from_least
  have C_bundle := c_bundle (P := l.prog) (w := w) (base := base) D13 B C_first_bearing C_way_or_ring
  have C_borne := c_borne (P := l.prog) (w := w) (base := base) D14 B 
  have C_is_number := c_is_number (P := l.prog) (w := w) (base := base) D15 B 
  have C_is_tuple_of := c_is_tuple_of (P := l.prog) (w := w) (base := base) D16 B 
  have C_is_form := c_is_form (P := l.prog) (w := w) (base := base) D17 B C_is_number C_is_tuple_of
  have C_streamfault := c_streamfault (P := l.prog) (w := w) (base := base) D18 B C_borne C_is_form
  have C_worth := c_worth (P := l.prog) (w := w) (base := base) D19 B C_borne C_in_doors
  exact ok_law (fun_mk (st := s_law) l20 c20 k20) B C__law_deck C__law_next C__law_stream C__law_web C_bundle C_streamfault C_worth
end Row
open PySem PySem.W PyProof.Rows
set_option maxHeartbeats 0 in
theorem PySem.Challenge.cw_unturned_k07_whole_parts_of_streams_holds : PySem.Challenge.rw_unturned_k07_whole_parts_of_streams.Holds := by
  w_on; o_law; k_head; (case hw => w_witness2)
  k_fill
  refine Uv.walk_v (l := PySem.Challenge.rw_unturned_k07_whole_parts_of_streams) (n := 63) (k := 6) (x := "_law_script") (f := Fn.F_law_z92) rfl (by decide) rfl ⟨rfl, by decide, by decide⟩ (fun w h Y => PySem.W.kIn_of Y) ?F Fn.k07
  case F =>
    intro w mg fa h KX G hmg
    refine' Row.all_mk KX G hmg ?a0 ?l0 ?c0 ?k0 ?a1 ?l1 ?c1 ?k1 ?a2 ?l2 ?c2 ?k2 ?a3 ?l3 ?c3 ?k3 ?a4 ?l4 ?c4 ?k4 ?a5 ?l5 ?c5 ?k5 ?a6 ?l6 ?c6 ?k6 ?a7 ?l7 ?c7 ?k7 ?a8 ?l8 ?c8 ?k8 ?a9 ?l9 ?c9 ?k9 ?a10 ?l10 ?c10 ?k10 ?a11 ?l11 ?c11 ?k11 ?a12 ?l12 ?c12 ?k12 ?a13 ?l13 ?c13 ?k13 ?a14 ?l14 ?c14 ?k14 ?a15 ?l15 ?c15 ?k15 ?a16 ?l16 ?c16 ?k16 ?a17 ?l17 ?c17 ?k17 ?a18 ?l18 ?c18 ?k18 ?a19 ?l19 ?c19 ?k19 ?a20 ?l20 ?c20 ?k20 ?z_abs ?z_all ?z_bool ?z_enumerate ?z_int ?z_isinstance ?z_len ?z_list ?z_min ?z_range ?z_sum ?z_tuple
    (case a0 => k_is); (case l0 => k_is); (case c0 => k_is); (case k0 => k_is); (case a1 => k_is); (case l1 => k_is); (case c1 => k_is); (case k1 => k_is); (case a2 => k_is); (case l2 => k_is); (case c2 => k_is); (case k2 => k_is); (case a3 => k_is); (case l3 => k_is); (case c3 => k_is); (case k3 => k_is); (case a4 => k_is); (case l4 => k_is); (case c4 => k_is); (case k4 => k_is); (case a5 => k_is); (case l5 => k_is); (case c5 => k_is); (case k5 => k_is); (case a6 => k_is); (case l6 => k_is); (case c6 => k_is); (case k6 => k_is); (case a7 => k_is); (case l7 => k_is); (case c7 => k_is); (case k7 => k_is); (case a8 => k_is); (case l8 => k_is); (case c8 => k_is); (case k8 => k_is); (case a9 => k_is); (case l9 => k_is); (case c9 => k_is); (case k9 => k_is); (case a10 => k_is); (case l10 => k_is); (case c10 => k_is); (case k10 => k_is); (case a11 => k_is); (case l11 => k_is); (case c11 => k_is); (case k11 => k_is); (case a12 => k_is); (case l12 => k_is); (case c12 => k_is); (case k12 => k_is); (case a13 => k_is); (case l13 => k_is); (case c13 => k_is); (case k13 => k_is); (case a14 => k_is); (case l14 => k_is); (case c14 => k_is); (case k14 => k_is); (case a15 => k_is); (case l15 => k_is); (case c15 => k_is); (case k15 => k_is); (case a16 => k_is); (case l16 => k_is); (case c16 => k_is); (case k16 => k_is); (case a17 => k_is); (case l17 => k_is); (case c17 => k_is); (case k17 => k_is); (case a18 => k_is); (case l18 => k_is); (case c18 => k_is); (case k18 => k_is); (case a19 => k_is); (case l19 => k_is); (case c19 => k_is); (case k19 => k_is); (case a20 => k_is); (case l20 => k_is); (case c20 => k_is); (case k20 => k_is); (case z_abs => k_is); (case z_all => k_is); (case z_bool => k_is); (case z_enumerate => k_is); (case z_int => k_is); (case z_isinstance => k_is); (case z_len => k_is); (case z_list => k_is); (case z_min => k_is); (case z_range => k_is); (case z_sum => k_is); (case z_tuple => k_is)
