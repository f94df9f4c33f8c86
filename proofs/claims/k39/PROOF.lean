import PyProof.Rows.All
import Wide.All
import OpenK.AllK
import Wide.FinOn
import HandS.Iter
import KE.GoesEnum
import HandS.ForMost
import HandS.Evl
import HandS.Walk
import HandS.IsInst
import HandS.Wide
import HandS.NoneIn
import HandS.EndBits
import HandS.Codes
import HandS.TupAny
import HandS.TupMul
import HandS.Deep
import PyProof.TupleOfSeq
import PyProof.SeqIndex
import KE.DatumIndex
import PyProof.ReprRoads
import PyProof.CallFns
import HandS.SortInts
import HandS.Zip
import HandS.Star
import PySem.Challenge.RW_unturned_k39_fairs_of_webs
set_option Elab.async false
set_option linter.all false
set_option maxRecDepth 100000
set_option maxHeartbeats 8000000
namespace Un
open PySem PySem.Spec PyProof.Rows L2
/-- enumerate's new pair of cells over whatever begins an iterator -/
theorem meets_enumB {u : Value} {ob : Obj} {Hh : Heap → Prop} (B : Begins u ob Hh) :
    Meets (Builtin.«enumerate.__new__» ⟨[.type "enumerate", u], []⟩) (fun _ R st => Hh st.heap ∧
      R (.ok (.ret (.ref (st.heap.push ob).objs.size))) { st with heap := (st.heap.push ob).push { cls := .type "enumerate", data := .fields #[.none, .bool false, .ref st.heap.objs.size, rawInt 0, .none, .none] } }) :=
  .of_wp fun prog w A R st hh => by
    obtain ⟨hp, gn, dr, tk, os⟩ := st
    obtain ⟨hu, hh⟩ := hh
    have hsub := sub_enumerate
    have it1 : ∀ {A' : Around} {E : Value → Shared → Prop} {Q : Value → Shared → Prop}, Q (.ref hp.objs.size) ⟨hp.push ob, gn, dr, tk, os⟩ → wpAny (model prog w) A' (pyIter u) Q E ⟨hp, gn, dr, tk, os⟩ :=
      fun q => B.iter prog w _ _ ⟨hp, gn, dr, tk, os⟩ _ hu q
    wp_walk using it1
    refine wpAny_stack_any fun stk => wpAny_pure ?_
    split
    · rename_i cc _ _ _ _ _
      cases (cc == Value.type "enumerate") <;> (wp_walk using it1; exact ⟨_, rfl, hh⟩)
    · wp_walk using it1
      exact ⟨_, rfl, hh⟩
section
variable {prog : Program} {w : World} {A : Around} {E : Value → Shared → Prop} {s : Shared}
theorem call_enumT {l : Addr} {its : Array Value} {Q : Value → Shared → Prop} (hT : s.heap.IsTuple l its)
    (k : ∀ h', IsEnum h' (s.heap.objs.size + 1) s.heap.objs.size 0 .none → h'.IsTupleIter s.heap.objs.size l 0 →
      (∀ b o, s.heap.get? b = some o → h'.get? b = some o) → Q (.ref (s.heap.objs.size + 1)) { s with heap := h' }) :
    wpAny (model prog w) A (call (.type "enumerate") [.ref l]) Q E s := by
  refine callType_new F.called_enumerate (by decide) (F.typeCall_enumerate_1 _) (F.newCall_enumerate_1 _) (fun obj => F.args_object_init_2 obj _) F.entry_enumerate_new
    (meets_enumB (begins_tuple l its)) ⟨hT, ?_⟩
  have sz : (s.heap.push { cls := .type "tuple_iterator", data := .fields #[.ref l, .int 0 0] }).objs.size = s.heap.objs.size + 1 := Heap.size_push ..
  show _ ∧ _
  rw [sz]
  have en : IsEnum ((s.heap.push { cls := .type "tuple_iterator", data := .fields #[.ref l, .int 0 0] }).push
      { cls := .type "enumerate", data := .fields #[.none, .bool false, .ref s.heap.objs.size, rawInt 0, .none, .none] }) (s.heap.objs.size + 1) s.heap.objs.size 0 .none := by
    have g := Heap.get?_push_size (s.heap.push { cls := .type "tuple_iterator", data := .fields #[.ref l, .int 0 0] })
      (o := { cls := .type "enumerate", data := .fields #[.none, .bool false, .ref s.heap.objs.size, rawInt 0, .none, .none] }) rfl
    rw [sz] at g
    exact g
  exact ⟨⟨_, en, rfl⟩, k _ en ⟨_, Heap.get?_push_of_some _ (Heap.get?_push_size _ rfl), rfl, rfl⟩ fun b o x => Heap.get?_push_of_some _ (Heap.get?_push_of_some _ x)⟩
end
/-- the tuple at a, each item in a new pair with its place -/
def IteT (K : PySem.W.Frag) (a : Addr) : It :=
  ⟨fun i H => ∃ (xs : List V) (x : V), SqT K H a xs ∧ xs[i]? = some x,
   fun i H v H' => ∃ T x, v = .ref T ∧ H T = none ∧ H' = upd H T (.tup [.int (i : Nat), x]) ∧ ∀ xs, SqT K H a xs → xs[i]? = some x,
   fun i H => ∃ xs : List V, SqT K H a xs ∧ xs.length = i⟩
theorem turn_enumT {P : Program} {w : World} {K : PySem.W.Frag} {elts : List Expr} {kk : Nat} {tpos : Pos} (a e it : Addr) (hai : a ≠ it) (hae : a ≠ e) :
    Turn P w K (.Tuple elts kk tpos) (IteT K a) [e, it] e (fun i h => (∃ old, IsEnum h e it ((i : Nat) : Int) old) ∧ h.IsTupleIter it a i ∧ e ≠ it) where
  mem := by simp
  obj := fun i h st b hb => by
    obtain ⟨⟨old, he⟩, ⟨o, ho, hc, hd⟩, _⟩ := st
    have eb : b = e ∨ b = it := by simpa using hb
    rcases eb with z | z
    · subst z
      exact ⟨_, he, fun v q => nomatch q⟩
    · subst z
      exact ⟨o, ho, fun v q => by rw [hd] at q; cases q⟩
  keep := fun i h h' st k => let ⟨⟨old, he⟩, ⟨o, ho, r⟩, hne⟩ := st; ⟨⟨old, k e (by simp) _ he⟩, ⟨o, k it (by simp) o ho, r⟩, hne⟩
  item := by
    intro X hP hw hK hc i pins s σ H E I hf st hg
    subst hP hw hK
    obtain ⟨⟨old, he⟩, hit, hne⟩ := st
    obtain ⟨xs, x, hq, hx⟩ := hg
    obtain ⟨its, rv, p, hz⟩ := I.tuple hq
    obtain ⟨u, hu, ru⟩ := rv.get hx
    have hlt : i < its.toArray.size := by
      have z := (List.getElem?_eq_some_iff.mp hu).1
      simpa using z
    have hel : e < s.heap.objs.size := Heap.lt_size he
    have hil : it < s.heap.objs.size := by
      obtain ⟨_, q, _⟩ := hit
      exact Heap.lt_size q
    have D := Draws.tuple (prog := X.prog) (w := X.w) (A := X.A.in1) (I.ok.hd hc) it a hai its.toArray
    refine wpAny_pyNext_enum_itemC D he ⟨hit, p⟩ hlt hne (by
      intro z
      have z' : e = it ∨ e = a := by simpa using z
      rcases z' with z1 | z1
      · exact hne z1
      · exact hae z1.symm) fun y h' tk hy ho hst' hT hsz hk => ?_
    have eu : y = u := by
      have z : its.toArray[i]? = some y := hy
      have z2 : its[i]? = some y := by simpa using z
      exact Option.some.inj (z2.symm.trans hu)
    subst eu
    refine ⟨_, rfl, wpAny_letOwnedTupleGo_enum (s := { s with heap := h', toks := tk + 1 }) ho fun h'' he' sb => ?_⟩
    have hT2 : h''.get? s.heap.objs.size = some { cls := .type "tuple", data := .seq #[.int i tk, y] } := (sb.2 _ (Nat.ne_of_gt hel)).trans hT
    have new : ObjOk X.prog X.w (upd H s.heap.objs.size (.tup [.int (i : Nat), x])) h'' s.heap.objs.size (.tup [.int (i : Nat), x]) :=
      ⟨by show 2 ≤ sizeLine; decide, [.int i tk, y], .cons ⟨_, rfl⟩ (.cons ru .nil), ⟨_, hT2, rfl, _, rfl⟩⟩
    have I1 : Inv X pins σ (upd H s.heap.objs.size (.tup [.int (i : Nat), x])) { s with heap := h'', toks := tk + 1 } :=
      I.turnedNew (ch := [e, it]) (fun b ob hb q => (sb.2 b (fun z => hb (by simp [z]))).trans (hk b ob (fun z => hb (by simp [z])) (fun z => hb (by simp [z])) q)) hf (Nat.le_refl _) new
    refine ⟨.ref s.heap.objs.size, _, I1, rfl, ⟨_, x, rfl, I.hok.fresh (Nat.le_refl _), rfl, fun ys hy => by rw [I.tuple_inj hy hq]; exact hx⟩, ⟨⟨y, ?_⟩, ?_, hne⟩, fun b hb => ?_⟩
    · have e1 : ((i + 1 : Nat) : Int) = (i : Int) + 1 := by omega
      rw [e1]
      exact he'
    · obtain ⟨⟨o, q, r⟩, _⟩ := hst'
      exact ⟨o, (sb.2 it (Ne.symm hne)).trans q, r⟩
    · have hb' : b < s.heap.objs.size := by
        have eb : b = e ∨ b = it := by simpa using hb
        rcases eb with z | z
        · rw [z]; exact hel
        · rw [z]; exact hil
      rw [upd_ne (Nat.ne_of_lt hb')]
      exact (hf b hb).1
  done := by
    intro X hP hw hK hc i pins s σ H E I hf st hg
    subst hP hw hK
    obtain ⟨⟨old, he⟩, hit, hne⟩ := st
    obtain ⟨xs, hq, hx⟩ := hg
    obtain ⟨its, rv, p, hz⟩ := I.tuple hq
    have hl := rv.length
    have D := Draws.tuple (prog := X.prog) (w := X.w) (A := X.A.in1) (I.ok.hd hc) it a hai its.toArray
    have en : its.toArray.size = i := by
      simp
      omega
    obtain ⟨f0, f1, f2, f3, f4, f5⟩ := hf it (by simp)
    refine wpAny_pyNext_enum_endD D he (en.symm ▸ ⟨hit, p⟩) fun h' eb => ⟨rfl, I.turned (t' := s.toks) (fun b o hb q => eb b o hb q) f0 f1 f3 f4 f5⟩
  self := fun A i s Q E st h => let ⟨⟨_, he⟩, _⟩ := st; wpAny_pyIter_enum he h
def iEnumT (K : PySem.W.Frag) (ta : TA) : TI := fun σ H R => ta σ H fun vs H1 => ∃ a xs, vs = [.ref a] ∧ SqT K H1 a xs ∧ R (IteT K a) H1
theorem pi_enumT {X : Cx} {e : Expr} {ta : TA} {p pos tpos : Pos} {elts : List Expr} {kk : Nat} (hg : Gl X "enumerate") (hm : X.mg "enumerate" = none) (ha : PA X [e] ta)
    (hs : starEach [e] X.env = [(false, eval e X.env)] := by rfl) : PI X (.Tuple elts kk tpos) (.Call (.Name "enumerate" p) [e] [] pos) (iEnumT X.K ta) := by
  refine ⟨fun pins s σ H R I h => ?_⟩
  refine Call_ (ld_blt I hg hm boot_enumerate (PyProof.Rows.callWith_type1 (thn (ha.run pos pins s σ H _ I h) fun us s1 ⟨vs, H1, I1, r1, q1⟩ => ?_) hs rfl))
  obtain ⟨a, xs, ex, hq, q⟩ := q1
  subst ex
  cases r1 with
  | cons r rr =>
    cases rr
    cases r
    obtain ⟨its, rv, pt, hz⟩ := I1.tuple hq
    have hal : a < s1.heap.objs.size := by
      obtain ⟨o, ho, _⟩ := (show s1.heap.IsTuple a its.toArray from pt)
      exact Heap.lt_size ho
    refine call_enumT pt fun h' he hit hk => wpAny_pyIter_enum he ?_
    have I2 : Inv X pins σ H1 { s1 with heap := h' } := I1.kept (t' := s1.toks) hk
    refine ⟨s1.heap.objs.size + 1, [s1.heap.objs.size + 1, s1.heap.objs.size], _, _, H1, rfl, I2,
      turn_enumT a (s1.heap.objs.size + 1) s1.heap.objs.size (Nat.ne_of_lt hal) (Nat.ne_of_lt (Nat.lt_succ_of_lt hal)), ⟨⟨.none, he⟩, hit, Nat.succ_ne_self _⟩, fun b hb => ?_, q⟩
    have hle : s1.heap.objs.size ≤ b := by
      have e' : b = s1.heap.objs.size + 1 ∨ b = s1.heap.objs.size := by simpa using hb
      rcases e' with z | z
      · rw [z]; exact Nat.le_add_right _ _
      · rw [z]; exact Nat.le_refl _
    exact I1.fpOk hle (I1.hok.fresh hle)
end Un

namespace Uv
open PySem PySem.Spec PyProof.Rows L2
open Evl (Ex)
/-! ### tuples whose object is known -/
def Plain (o : Obj) : Prop := o.cls = .type "tuple" ∧ o.dict = none
abbrev fz (o : Obj) (xs : List V) : HO := .frz o (.tup xs)
def tTupF (t : TA) : TE := fun σ H Q => t σ H fun xs H1 => xs.length ≤ sizeLine ∧ ∀ p o, H1 p = none → Plain o → Q (.ref p) (upd H1 p (fz o xs))
theorem pe_tupF {X : Cx} {es : List Expr} {t : TA} {pos : Pos} {x1} (h : PA X es t) : PE X (.Tuple es x1 pos) (tTupF t) := by
  refine ⟨fun pins s σ H Q I hq => ?_⟩
  refine wpAny_Tuple_spliced (thn (h.run pos pins s σ H _ I hq) fun us s1 ⟨xs, H1, I1, r, z, q⟩ => ⟨by rw [← r.length]; exact z, ?_⟩)
  have I2 : Inv X pins σ (upd H1 s1.heap.objs.size (fz { cls := .type "tuple", data := .seq us.toArray } xs)) { s1 with heap := s1.heap.push { cls := .type "tuple", data := .seq us.toArray }, toks := s1.toks } :=
    I1.laid (t' := s1.toks) (fun b u e => Heap.get?_push_of_some _ e) (Nat.le_refl _) (show ObjOk X.prog X.w _ _ _ (.frz _ (.tup xs)) from ⟨Heap.get?_push_size _ rfl, z, us, r, IsTup.new _ _⟩)
  exact ⟨.ref s1.heap.objs.size, _, I2, rfl, q _ _ (I1.hok.fresh (Nat.le_refl _)) ⟨rfl, rfl⟩⟩
/-- tuple(xs) of a list: a new one; of a tuple: itself -/
def rTupF (K : PySem.W.Frag) : List V → Hp → VK → Prop := fun xs H Q => ∃ p ys, xs = [.ref p] ∧ ((SqL K H p ys ∧ ∀ l o, H l = none → Plain o → Q (.ref l) (upd H l (fz o ys))) ∨ (SqT K H p ys ∧ Q (.ref p) H))
theorem cr_tupF {X : Cx} : CallR X (.type "tuple") (rTupF X.K) := by
  intro pins s σ H xs us Q I r h
  obtain ⟨p, ys, rfl, h⟩ := h
  rcases h with ⟨hq, q⟩ | ⟨ht, q⟩
  · obtain ⟨u, rfl, rx⟩ := vals1 r
    cases rx
    obtain ⟨its, r', pl, hz⟩ := I.list hq
    have hlen := r'.length
    refine call_tuple_list pl.isList (fun h' kp => ?_) (by simp only [List.size_toArray] <;> omega)
    have I1 : Inv X pins σ H { s with heap := h' } := I.kept (t' := s.toks) kp
    have I2 : Inv X pins σ (upd H h'.objs.size (fz { cls := .type "tuple", data := .seq its.toArray } ys)) { s with heap := h'.push { cls := .type "tuple", data := .seq its.toArray } } :=
      I1.laid (t' := s.toks) (fun b o e => Heap.get?_push_of_some _ e) (Nat.le_refl _) (show ObjOk X.prog X.w _ _ _ (.frz _ (.tup ys)) from ⟨Heap.get?_push_size _ rfl, hz, its, r', IsTup.new _ _⟩)
    exact ⟨.ref h'.objs.size, _, I2, rfl, q _ _ (I1.hok.fresh (Nat.le_refl _)) ⟨rfl, rfl⟩⟩
  · exact call_tupleT pins s σ H _ us Q I r ⟨p, ys, rfl, ht, q⟩
/-- t + u -/
def rCatF (K : PySem.W.Frag) : R2 := fun x y H Q => ∃ a b xs ys, x = .ref a ∧ y = .ref b ∧ SqT K H a xs ∧ SqT K H b ys ∧ xs.length + ys.length ≤ sizeLine ∧
  (xs = [] → Q (.ref b) H) ∧ (xs ≠ [] → ys = [] → Q (.ref a) H) ∧ (xs ≠ [] → ys ≠ [] → ∀ p o, H p = none → Plain o → Q (.ref p) (upd H p (fz o (xs ++ ys))))
theorem op_catF {X : Cx} : OpR X (binaryOp .Add) (rCatF X.K) := by
  intro pins s σ H x y v u Q I rx ry h
  obtain ⟨a, b, xs, ys, rfl, rfl, ha, hb, hz, q0, q1, q2⟩ := h
  cases rx
  cases ry
  obtain ⟨its, r1, p1, _⟩ := I.tuple ha
  obtain ⟨its2, r2, p2, _⟩ := I.tuple hb
  by_cases hx : xs = []
  · subst hx
    cases r1
    exact cat_tup0 p1 p2 ⟨.ref b, H, I, rfl, q0 rfl⟩
  · refine HT.cat_tup p1 p2 (fun z => hx (r1.nil_iff.mp z)) (fun z => ⟨.ref a, H, I, rfl, q1 hx (r2.nil_iff.mp z)⟩) (fun z => ?_) (by rw [← r1.length, ← r2.length]; exact hz)
    have hy : ys ≠ [] := fun w => z (r2.nil_iff.mpr w)
    have ok := I.laid (t' := s.toks) (o := fz _ (xs ++ ys)) (fun b ob q => Heap.get?_push_of_some _ q) (Nat.le_refl _) (show ObjOk X.prog X.w _ _ _ (.frz _ (.tup (xs ++ ys))) from ⟨Heap.get?_push_size _ rfl, by rw [List.length_append]; exact hz, _, r1.append r2, IsTup.new _ _⟩)
    exact ⟨.ref s.heap.objs.size, _, ok, rfl, q2 hx hy _ _ (I.hok.fresh (Nat.le_refl _)) ⟨rfl, rfl⟩⟩
/-- t[lo:hi] -/
def rSlF (K : PySem.W.Frag) : V → Option Int → Option Int → Hp → VK → Prop := fun x lo hi H Q => ∃ a xs, x = .ref a ∧ SqT K H a xs ∧
  (HT.sIx xs.length 0 lo = 0 ∧ HT.sIx xs.length xs.length hi = xs.length → Q (.ref a) H) ∧ (¬ (HT.sIx xs.length 0 lo = 0 ∧ HT.sIx xs.length xs.length hi = xs.length) → ∀ p o, H p = none → Plain o → Q (.ref p) (upd H p (fz o (cutV xs lo hi))))
theorem sl_tupF {X : Cx} : SlR X (rSlF X.K) := by
  intro pins s σ H x v vl vu lo hi sl Q I rx hs pl pu h
  obtain ⟨a, xs, rfl, hx, q1, q2⟩ := h
  cases rx
  obtain ⟨its, r, ht, hz⟩ := I.tuple hx
  have hlen : its.toArray.size = xs.length := by rw [List.size_toArray]; exact r.length.symm
  refine ⟨"tuple", _, PyProof.Rows.slot_tuple_getitem.lookup, ht.typeIs, ?_⟩
  by_cases hw : HT.sIx xs.length 0 lo = 0 ∧ HT.sIx xs.length xs.length hi = xs.length
  · exact getItem_tuple_whole ht hs pl pu (by rw [hlen]; exact hw) ⟨.ref a, H, I, rfl, q1 hw⟩
  · refine HT.getItem_tuple_cut ht hs pl pu (by rw [hlen]; exact hw) ?_ (by rw [hlen]; exact hz)
    rw [hlen]
    have ok := I.laid (t' := s.toks) (o := fz _ (cutV xs lo hi)) (fun b ob q => Heap.get?_push_of_some _ q) (Nat.le_refl _) (show ObjOk X.prog X.w _ _ _ (.frz _ (.tup (cutV xs lo hi))) from ⟨Heap.get?_push_size _ rfl, Nat.le_trans (cutV_length xs lo hi) hz, _, (r.drop (HT.sIx xs.length 0 lo)).take (HT.sIx xs.length xs.length hi - HT.sIx xs.length 0 lo), IsTup.new _ _⟩)
    exact ⟨.ref s.heap.objs.size, _, ok, rfl, q2 hw _ _ (I.hok.fresh (Nat.le_refl _)) ⟨rfl, rfl⟩⟩
/-- t.index(x) of a tuple of ints or Nones: x in t -/
def rIndexF (K : PySem.W.Frag) : V → List V → Hp → VK → Prop := fun x xs H Q => ∃ (a : Addr) (ns : List Int) (m : Int), x = .ref a ∧ xs = [.int m] ∧ SqT K H a (ns.map V.int) ∧ m ∈ ns ∧ Q (.int (ns.idxOf m : Nat)) H
theorem mt_indexF {X : Cx} (hu : X.A.units + 65 < cLine) : MtR X "tuple.index" (rIndexF X.K) := by
  intro pins s σ H x xs v us Q I rx rxs h
  obtain ⟨a, ns, m, rfl, rfl, hs, hm, q⟩ := h
  cases rx
  obtain ⟨u, rfl, t, rfl⟩ := vals1 rxs
  obtain ⟨its, rv, p, _⟩ := I.tuple hs
  refine PySem.W.index_tuple_datum (xs := ns) (x := m) p ⟨[], rv.ints.reads s.heap⟩ ⟨[], .int m t⟩ (by show X.A.units + 1 + 0 < cLine; omega) hm ?_
  exact ⟨.int _, H, I.tok _, ⟨_, rfl⟩, q⟩
def tBMF (r : V → List V → Hp → VK → Prop) (to : TE) (t : TA) : TE := fun σ H Q => to σ H fun x H1 => (∃ p o u, x = .ref p ∧ H1 p = some (.frz o u) ∧ Plain o) ∧ t σ H1 fun xs H2 => r x xs H2 Q
theorem pe_bmF {X : Cx} {o e : Expr} {es : List Expr} {to : TE} {t : TA} {name : Str} {apos cpos : Pos} {id : String} {r : V → List V → Hp → VK → Prop} (slot : Slot "tuple" name id) (hty : typeOf (.builtin id) = pure (.type "method_descriptor")) (hm : MtR X id r) (ho : PE X o to) (ha : PA X (e :: es) t)
    (hbase : attributeBase o name X.env (eval o X.env) = eval o X.env := by rfl)
    (hfew : ((backTo cpos (starEach (e :: es) X.env)).all (fun x => !x.1) && (backToKw cpos (keywordEach [] X.env)).all (fun x => x.1.isSome)
      && decide ((e :: es).length + ([] : List Keyword).length + (if ([] : List Keyword).isEmpty then 0 else 1) < 30)) = true := by rfl)
    (hline : (apos.endLine == cpos.line) = true := by rfl) (hs : starEach (e :: es) X.env = (false, eval e X.env) :: starEach es X.env := by rfl) (hplain : (backTo cpos (starEach es X.env)).any (·.1) = false := by rfl) :
    PE X (.Call (.Attribute o name apos) (e :: es) [] cpos) (tBMF r to t) := by
  refine ⟨fun pins s σ H Q I h => wpAny_Call_method_late hbase hfew hline rfl (thn (ho.run pins s σ H _ I h) fun v s1 ⟨x, H1, I1, r1, ty, q1⟩ => ?_)⟩
  obtain ⟨p, ob, u, rfl, hp, hc, hd⟩ := ty
  cases r1
  have hg := (I1.hok p _ hp).1
  refine ⟨"tuple", id, PySem.F.plainAttrs_tuple, slot, hty, ⟨ob, hg, hc⟩, fun a e => by cases e; exact ⟨ob, hg, hd⟩, ?_⟩
  have hA := ha.run cpos pins s1 σ H1 _ I1 q1
  rw [hs] at hA ⊢
  refine Calls.callWith_builtin (by show (false || (backTo cpos (starEach es X.env)).any (·.1)) = false; rw [hplain] <;> rfl) (Calls.evalArgs_plain ?_)
  exact thn hA fun us s2 ⟨vs, H2, I2, r2, q2⟩ => hm pins s2 σ H2 (.ref p) vs (.ref p) us Q I2 (show L2.RelV (.ref p) (.ref p) from rfl) r2 q2
theorem u65 {k : Nat} {A : Around} (r : Room k A) : A.units + 65 < cLine := by have := r.un; omega
end Uv

namespace Uv
open PySem PySem.Spec PyProof.Rows L2
open Evl (Ex)
/-- the written part that is in force -/
class KK where
  fr : PySem.W.Frag
abbrev K [kk : KK] : PySem.W.Frag := kk.fr
variable [kk : KK]
abbrev PD := PyData
/-- the script, as data: only len, an index, a slice and a walk are asked of it -/
abbrev scrD (ds : List PD) : PD := .dict [(.none, .list ds)]
theorem sqx {K : PySem.W.Frag} {H H' : Hp} {a : Addr} {xs : List V} (e : Ex H H') (h : SqL K H a xs) : SqL K H' a xs := h.elim (fun r => .inl (r.elim (fun r => .inl (e _ _ r)) fun ⟨o, r⟩ => .inr ⟨o, e _ _ r⟩)) .inr
abbrev Hs := Addr → Prop
/-! ### what is hidden -/
open Classical in
noncomputable def hid (S : Hs) (H : Hp) : Hp := fun x => if S x then none else H x
section
variable {S S' : Hs} {H H' : Hp} {x p : Addr} {o : HO}
theorem hid_in (h : S x) : hid S H x = none := by unfold hid; rw [if_pos h]
theorem hid_out (h : ¬ S x) : hid S H x = H x := by unfold hid; rw [if_neg h]
theorem hid_some (h : hid S H x = some o) : ¬ S x ∧ H x = some o := by
  by_cases c : S x
  · rw [hid_in c] at h; cases h
  · rw [hid_out c] at h; exact ⟨c, h⟩
theorem hid_ex (e : Ex H H') : Ex (hid S H) (hid S H') := fun x o h => by
  obtain ⟨c, h⟩ := hid_some h
  rw [hid_out c]; exact e x o h
theorem hid_le : Ex (hid S H) H := fun x o h => (hid_some h).2
theorem hid_sub (h : ∀ x, S' x → S x) : Ex (hid S H) (hid S' H) := fun x o q => by
  obtain ⟨c, q⟩ := hid_some q
  rw [hid_out fun z => c (h x z)]; exact q
theorem hid_eq (h : ∀ x, S x ↔ S' x) : hid S H = hid S' H := by
  funext x
  by_cases c : S x
  · rw [hid_in c, hid_in ((h x).mp c)]
  · rw [hid_out c, hid_out fun z => c ((h x).mpr z)]
def Al (S : Hs) (H : Hp) : Prop := ∀ x, S x → H x ≠ none
theorem Al.ex (a : Al S H) (e : Ex H H') : Al S H' := fun x hx z => by
  cases q : H x with
  | none => exact a x hx q
  | some o => rw [e x o q] at z; cases z
theorem Al.new (a : Al S H) (hp : H p = none) : ¬ S p := fun z => a p z hp
theorem new_ok (al : Al S H) (hp : H p = none) : hid S (upd H p o) p = some o := by rw [hid_out (al.new hp), upd_same]
theorem hid_cons (e : Ex H H') (hp : H p = none) : Ex (hid S H) (hid (fun x => x = p ∨ S x) H') := fun x o h => by
  obtain ⟨c, h⟩ := hid_some h
  have n : ¬ (x = p ∨ S x) := fun z => z.elim (fun z => by subst z; rw [hp] at h; cases h) c
  rw [hid_out n]; exact e x o h
end
/-! ### data as they stand on the heap -/
mutual
inductive Rp (H : Hp) : V → PD → Prop
  | non : Rp H .non .none
  | bl (b : Bool) : Rp H (.bl b) (.bool b)
  | int (i : Int) : Rp H (.int i) (.int i)
  | str (x : Str) : Rp H (.str x) (.str x)
  | lst {a : Addr} {xs : List V} {ds : List PD} : H a = some (.lst xs) → RpAll H xs ds → Rp H (.ref a) (.list ds)
  | tup {a : Addr} {o : Obj} {xs : List V} {ds : List PD} : H a = some (fz o xs) → Plain o → RpAll H xs ds → Rp H (.ref a) (.tuple ds)
  | dic {a : Addr} : H a = some (.dK []) → Rp H (.ref a) (.dict [])
  | scr {a : Addr} {xs : List V} {ds : List PD} : SqL K H a xs → RpAll H xs ds → Rp H (.ref a) (scrD ds)
inductive RpAll (H : Hp) : List V → List PD → Prop
  | nil : RpAll H [] []
  | cons {v : V} {vs : List V} {d : PD} {ds : List PD} : Rp H v d → RpAll H vs ds → RpAll H (v :: vs) (d :: ds)
end
mutual
theorem Rp.ex {H H' : Hp} (e : Ex H H') : ∀ {v : V} {d : PD}, Rp H v d → Rp H' v d
  | _, _, .non => .non
  | _, _, .bl b => .bl b
  | _, _, .int i => .int i
  | _, _, .str x => .str x
  | _, _, .lst h r => .lst (e _ _ h) (RpAll.ex e r)
  | _, _, .tup h p r => .tup (e _ _ h) p (RpAll.ex e r)
  | _, _, .dic h => .dic (e _ _ h)
  | _, _, .scr h r => .scr (sqx e h) (RpAll.ex e r)
theorem RpAll.ex {H H' : Hp} (e : Ex H H') : ∀ {vs : List V} {ds : List PD}, RpAll H vs ds → RpAll H' vs ds
  | _, _, .nil => .nil
  | _, _, .cons h r => .cons (Rp.ex e h) (RpAll.ex e r)
end
mutual
theorem Rp.dp {H : Hp} : ∀ {v : V} {d : PD}, Rp H v d → d.hasDict = false → Dp K H v d
  | _, _, .non, _ => .non
  | _, _, .bl b, _ => .bl b
  | _, _, .int i, _ => .int i
  | _, _, .str x, _ => .str x
  | _, _, .lst h r, n => .lst (.inl (.inl h)) (RpAll.dp r (by simpa [PyData.hasDict] using n))
  | _, _, .tup h _ r, n => .tup (.inl (.inr ⟨_, h⟩)) (RpAll.dp r (by simpa [PyData.hasDict] using n))
  | _, _, .dic h, n => by simp [PyData.hasDict] at n
  | _, _, .scr h r, n => by simp [PyData.hasDict] at n
theorem RpAll.dp {H : Hp} : ∀ {vs : List V} {ds : List PD}, RpAll H vs ds → PyData.hasDictAll ds = false → DpAll K H vs ds
  | _, _, .nil, _ => .nil
  | _, _, .cons h r, n => by
    simp only [PyData.hasDictAll, Bool.or_eq_false_iff] at n
    exact .cons (Rp.dp h n.1) (RpAll.dp r n.2)
end
section
variable {H : Hp}
theorem RpAll.length : ∀ {vs : List V} {ds : List PD}, RpAll H vs ds → vs.length = ds.length
  | _, _, .nil => rfl
  | _, _, .cons _ r => by rw [List.length_cons, List.length_cons, RpAll.length r]
theorem RpAll.get : ∀ {vs : List V} {ds : List PD} {i : Nat} {d : PD}, RpAll H vs ds → ds[i]? = some d → ∃ v, vs[i]? = some v ∧ Rp H v d
  | _, _, _, _, .nil, e => by simp at e
  | _, _, 0, _, .cons h _, e => by
    simp at e
    subst e
    exact ⟨_, rfl, h⟩
  | _, _, i + 1, d, .cons _ r, e => by
    obtain ⟨v, h1, h2⟩ := RpAll.get (i := i) (d := d) r (by simpa using e)
    exact ⟨v, by simpa using h1, h2⟩
theorem RpAll.append : ∀ {vs ws : List V} {ds es : List PD}, RpAll H vs ds → RpAll H ws es → RpAll H (vs ++ ws) (ds ++ es)
  | _, _, _, _, .nil, s => s
  | _, _, _, _, .cons h r, s => .cons h (RpAll.append r s)
theorem RpAll.drop : ∀ {vs : List V} {ds : List PD} (n : Nat), RpAll H vs ds → RpAll H (vs.drop n) (ds.drop n)
  | _, _, 0, r => by simpa using r
  | _, _, n + 1, .nil => by simpa using RpAll.nil
  | _, _, n + 1, .cons _ r => by simpa using RpAll.drop n r
theorem RpAll.take : ∀ {vs : List V} {ds : List PD} (n : Nat), RpAll H vs ds → RpAll H (vs.take n) (ds.take n)
  | _, _, 0, r => by simpa using RpAll.nil
  | _, _, n + 1, .nil => by simpa using RpAll.nil
  | _, _, n + 1, .cons h r => by simpa using RpAll.cons h (RpAll.take n r)
theorem RpAll.at {vs : List V} {ds : List PD} {i : Int} {d : PD} (r : RpAll H vs ds) (h : atI ds i = some d) : ∃ v, atI vs i = some v ∧ Rp H v d := by
  unfold atI at h ⊢
  rw [r.length]
  cases e : ixN ds.length i with
  | none => rw [e] at h; cases h
  | some j =>
    rw [e] at h
    exact r.get (i := j) h
theorem RpAll.set : ∀ {vs : List V} {ds : List PD} {v : V} {d : PD} (n : Nat), RpAll H vs ds → Rp H v d → RpAll H (vs.set n v) (ds.set n d)
  | _, _, _, _, _, .nil, _ => by simpa using RpAll.nil
  | _, _, _, _, 0, .cons _ r, h => by simpa using RpAll.cons h r
  | _, _, _, _, n + 1, .cons h0 r, h => by simpa using RpAll.cons h0 (RpAll.set n r h)
theorem RpAll.rep {vs : List V} {ds : List PD} (r : RpAll H vs ds) : ∀ n, RpAll H (List.replicate n vs).flatten (List.replicate n ds).flatten
  | 0 => .nil
  | n + 1 => by
    rw [List.replicate_succ, List.replicate_succ, List.flatten_cons, List.flatten_cons]
    exact r.append (RpAll.rep r n)
/-- ints as data -/
def unI : List PD → Option (List Int)
  | [] => some []
  | .int i :: r => (unI r).map (i :: ·)
  | _ => none
def unB : List PD → Option (List Bool)
  | [] => some []
  | .bool b :: r => (unB r).map (b :: ·)
  | _ => none
theorem unI_map : ∀ ns : List Int, unI (ns.map PyData.int) = some ns
  | [] => rfl
  | n :: ns => by rw [List.map_cons, unI, unI_map ns]; rfl
theorem unB_map : ∀ ns : List Bool, unB (ns.map PyData.bool) = some ns
  | [] => rfl
  | n :: ns => by rw [List.map_cons, unB, unB_map ns]; rfl
theorem unI_eq : ∀ {ds : List PD} {ns : List Int}, unI ds = some ns → ds = ns.map PyData.int
  | [], ns, h => by cases h; rfl
  | .int i :: r, ns, h => by
    unfold unI at h
    cases q : unI r with
    | none => rw [q] at h; cases h
    | some ms =>
      rw [q] at h
      cases h
      rw [unI_eq q]
      rfl
  | .none :: _, _, h => by cases h
  | .bool _ :: _, _, h => by cases h
  | .str _ :: _, _, h => by cases h
  | .list _ :: _, _, h => by cases h
  | .tuple _ :: _, _, h => by cases h
  | .dict _ :: _, _, h => by cases h
theorem unB_eq : ∀ {ds : List PD} {ns : List Bool}, unB ds = some ns → ds = ns.map PyData.bool
  | [], ns, h => by cases h; rfl
  | .bool i :: r, ns, h => by
    unfold unB at h
    cases q : unB r with
    | none => rw [q] at h; cases h
    | some ms =>
      rw [q] at h
      cases h
      rw [unB_eq q]
      rfl
  | .none :: _, _, h => by cases h
  | .int _ :: _, _, h => by cases h
  | .str _ :: _, _, h => by cases h
  | .list _ :: _, _, h => by cases h
  | .tuple _ :: _, _, h => by cases h
  | .dict _ :: _, _, h => by cases h
theorem RpAll.ints : ∀ {vs : List V} {ns : List Int}, RpAll H vs (ns.map PyData.int) → vs = ns.map V.int
  | _, [], .nil => rfl
  | _, n :: ns, .cons (.int _) r => by rw [RpAll.ints r]; rfl
theorem RpAll.bools : ∀ {vs : List V} {bs : List Bool}, RpAll H vs (bs.map PyData.bool) → vs = bs.map V.bl
  | _, [], .nil => rfl
  | _, n :: ns, .cons (.bl _) r => by rw [RpAll.bools r]; rfl
theorem RpAll.ofInts : ∀ (ns : List Int), RpAll H (ns.map V.int) (ns.map PyData.int)
  | [] => .nil
  | n :: ns => .cons (.int n) (RpAll.ofInts ns)
end
/-! ### slots -/
abbrev VE := List (Option PD)
def En (H : Hp) (σ : L2.St) (ρ : VE) : Prop := σ.length = ρ.length ∧ ∀ (i : Nat) (d : PD), ρ[i]? = some (some d) → ∃ v, σ[i]? = some (some v) ∧ Rp H v d
section
variable {H H' : Hp} {σ : L2.St} {ρ : VE}
theorem En.ex (h : En H σ ρ) (e : Ex H H') : En H' σ ρ := ⟨h.1, fun i d hi => let ⟨v, h1, h2⟩ := h.2 i d hi; ⟨v, h1, h2.ex e⟩⟩
theorem En.set (h : En H σ ρ) (j : Nat) {v : V} {d : PD} (hr : Rp H v d) : En H (σ.set j (some v)) (ρ.set j (some d)) := by
  refine ⟨by rw [List.length_set, List.length_set]; exact h.1, fun i q hi => ?_⟩
  by_cases c : j = i
  · subst c
    have hl : j < ρ.length := by
      have := (List.getElem?_eq_some_iff.mp hi).1
      simpa using this
    rw [List.getElem?_set_self hl] at hi
    cases hi
    exact ⟨v, List.getElem?_set_self (by rw [h.1]; exact hl), hr⟩
  · rw [List.getElem?_set_ne c] at hi
    rw [List.getElem?_set_ne c]
    exact h.2 i q hi
theorem En.clear (h : En H σ ρ) (j : Nat) (o : Option V) : En H (σ.set j o) (ρ.set j none) := by
  refine ⟨by rw [List.length_set, List.length_set]; exact h.1, fun i q hi => ?_⟩
  by_cases c : j = i
  · subst c
    have hl : j < ρ.length := by
      have := (List.getElem?_eq_some_iff.mp hi).1
      simpa using this
    rw [List.getElem?_set_self hl] at hi
    cases hi
  · rw [List.getElem?_set_ne c] at hi
    rw [List.getElem?_set_ne c]
    exact h.2 i q hi
theorem en_nil : En H [] [] := ⟨rfl, fun i r h => by simp at h⟩
theorem en_cons {o : Option V} {r : Option PD} (h : ∀ d, r = some d → ∃ v, o = some v ∧ Rp H v d) (t : En H σ ρ) : En H (o :: σ) (r :: ρ) := by
  refine ⟨by rw [List.length_cons, List.length_cons, t.1], fun i q hi => ?_⟩
  cases i with
  | zero =>
    have e : r = some q := by simpa using hi
    obtain ⟨v, e2, rv⟩ := h q e
    exact ⟨v, by rw [e2]; rfl, rv⟩
  | succ i => exact t.2 i q (by simpa using hi)
theorem en_none : ∀ n : Nat, En H (List.replicate n none) (List.replicate n none)
  | 0 => en_nil
  | n + 1 => by
    rw [List.replicate_succ, List.replicate_succ]
    exact en_cons (fun d h => nomatch h) (en_none n)
theorem en_args {n : Nat} : ∀ {vs : List V} {ds : List PD}, RpAll H vs ds → En H (vs.map some ++ List.replicate n none) (ds.map some ++ List.replicate n none)
  | _, _, .nil => en_none n
  | _, _, .cons h t => en_cons (fun d e => by cases e; exact ⟨_, rfl, h⟩) (en_args t)
end
/-! ### pure readings -/
def Ed (te : TE) (ρ : VE) (d : PD) : Prop := ∀ S σ H, Al S H → En (hid S H) σ ρ → ∀ Q : VK, (∀ v H2, Ex H H2 → Rp (hid S H2) v d → Q v H2) → te σ H Q
def Et (tt : TT) (ρ : VE) (b : Bool) : Prop := ∀ S σ H, Al S H → En (hid S H) σ ρ → ∀ Q : Bool → Hp → Prop, (∀ H2, Ex H H2 → Q b H2) → tt σ H Q
def Ea (ta : TA) (ρ : VE) (ds : List PD) : Prop := ∀ S σ H, Al S H → En (hid S H) σ ρ → ∀ Q : List V → Hp → Prop, (∀ vs H2, Ex H H2 → RpAll (hid S H2) vs ds → Q vs H2) → ta σ H Q
def Ro (r : R2) (x y z : PD) : Prop := ∀ S H vx vy, Al S H → Rp (hid S H) vx x → Rp (hid S H) vy y → ∀ Q : VK, (∀ v H2, Ex H H2 → Rp (hid S H2) v z → Q v H2) → r vx vy H Q
def Ru (r : V → Hp → VK → Prop) (x z : PD) : Prop := ∀ S H vx, Al S H → Rp (hid S H) vx x → ∀ Q : VK, (∀ v H2, Ex H H2 → Rp (hid S H2) v z → Q v H2) → r vx H Q
def Rc (r : List V → Hp → VK → Prop) (xs : List PD) (z : PD) : Prop := ∀ S H vs, Al S H → RpAll (hid S H) vs xs → ∀ Q : VK, (∀ v H2, Ex H H2 → Rp (hid S H2) v z → Q v H2) → r vs H Q
abbrev XE := VE → Option PD
abbrev XT := VE → Option Bool
abbrev XA := VE → Option (List PD)
def SE (te : TE) (x : XE) : Prop := ∀ ρ d, x ρ = some d → Ed te ρ d
def ST (tt : TT) (x : XT) : Prop := ∀ ρ b, x ρ = some b → Et tt ρ b
def SA (ta : TA) (x : XA) : Prop := ∀ ρ ds, x ρ = some ds → Ea ta ρ ds
def SO (r : R2) (f : PD → PD → Option PD) : Prop := ∀ x y z, f x y = some z → Ro r x y z
def SU (r : V → Hp → VK → Prop) (f : PD → Option PD) : Prop := ∀ x z, f x = some z → Ru r x z
def SC (r : List V → Hp → VK → Prop) (f : List PD → Option PD) : Prop := ∀ xs z, f xs = some z → Rc r xs z
theorem bind_some {α β : Type} {a : Option α} {f : α → Option β} {z : β} (h : a.bind f = some z) : ∃ x, a = some x ∧ f x = some z := by
  cases a with
  | none => cases h
  | some x => exact ⟨x, rfl, h⟩
def xVar (i : Nat) : XE := fun ρ => (ρ[i]?).bind id
def xC (d : PD) : XE := fun _ => some d
def xOp (f : PD → PD → Option PD) (a b : XE) : XE := fun ρ => (a ρ).bind fun x => (b ρ).bind fun y => f x y
def xUn (f : PD → Option PD) (a : XE) : XE := fun ρ => (a ρ).bind f
def xNil : XA := fun _ => some []
def xCons (a : XE) (as : XA) : XA := fun ρ => (a ρ).bind fun x => (as ρ).bind fun xs => some (x :: xs)
def xTup (as : XA) : XE := fun ρ => (as ρ).bind fun ds => if ds.length ≤ 100000 then some (.tuple ds) else none
def xLst (as : XA) : XE := fun ρ => (as ρ).bind fun ds => if ds.length ≤ 100000 then some (.list ds) else none
def xCB (f : List PD → Option PD) (as : XA) : XE := fun ρ => (as ρ).bind f
def isB : PD → Option Bool
  | .bool b => some b
  | _ => none
theorem isB_eq {d : PD} {b : Bool} (h : isB d = some b) : d = .bool b := by
  cases d with
  | bool c => cases h; rfl
  | _ => cases h
def xB (a : XE) : XT := fun ρ => (a ρ).bind isB
def xTAnd (a b : XT) : XT := fun ρ => (a ρ).bind fun c => if c = true then b ρ else some false
def xTOr (a b : XT) : XT := fun ρ => (a ρ).bind fun c => if c = true then some true else b ρ
def xTNot (a : XT) : XT := fun ρ => (a ρ).bind fun c => some (!c)
def xYes : XT := fun _ => some true
def xAnd (a b : XE) : XE := fun ρ => ((a ρ).bind isB).bind fun c => if c = true then b ρ else some (.bool false)
def xOr (a b : XE) : XE := fun ρ => ((a ρ).bind isB).bind fun c => if c = true then some (.bool true) else b ρ
def xNot (a : XE) : XE := fun ρ => ((a ρ).bind isB).bind fun c => some (.bool (!c))
def xIf (c : XT) (a b : XE) : XE := fun ρ => (c ρ).bind fun k => if k = true then a ρ else b ρ
def xChain (f g : PD → PD → Option PD) (a b c : XE) : XE := fun ρ => (a ρ).bind fun x => (b ρ).bind fun y => ((f x y).bind isB).bind fun k => if k = true then (c ρ).bind fun z => g y z else some (.bool false)
section
variable {ta tb tc te : TE} {t u : TT} {ts : TA} {a b c x : XE} {p q : XT} {as : XA} {r r' : R2} {f g : PD → PD → Option PD}
theorem se_var {i : Nat} : SE (tVar i) (xVar i) := fun ρ d h S σ H _ en Q q => by
  obtain ⟨o, h1, h2⟩ := bind_some h
  cases h2
  obtain ⟨v, e, rv⟩ := en.2 i d h1
  exact ⟨v, e, q v H (Ex.refl H) rv⟩
theorem se_int {i : Int} : SE (tC (.int i)) (xC (.int i)) := fun ρ d h S σ H _ _ Q q => by cases h; exact q _ H (Ex.refl H) (.int i)
theorem se_bl {b : Bool} : SE (tC (.bl b)) (xC (.bool b)) := fun ρ d h S σ H _ _ Q q => by cases h; exact q _ H (Ex.refl H) (.bl b)
theorem se_non : SE (tC .non) (xC .none) := fun ρ d h S σ H _ _ Q q => by cases h; exact q _ H (Ex.refl H) .non
theorem se_str {s : Str} : SE (tC (.str s)) (xC (.str s)) := fun ρ d h S σ H _ _ Q q => by cases h; exact q _ H (Ex.refl H) (.str s)
theorem se_op (hr : SO r f) (ha : SE ta a) (hb : SE tb b) : SE (tOp r ta tb) (xOp f a b) := fun ρ d h S σ H al en Q q => by
  obtain ⟨x, h1, h⟩ := bind_some h
  obtain ⟨y, h2, h⟩ := bind_some h
  exact ha ρ x h1 S σ H al en _ fun vx H1 e1 rx => hb ρ y h2 S σ H1 (al.ex e1) (en.ex (hid_ex e1)) _ fun vy H2 e2 ry =>
    hr x y d h S H2 vx vy ((al.ex e1).ex e2) (rx.ex (hid_ex e2)) ry Q fun v H3 e3 rv => q v H3 ((e1.trans e2).trans e3) rv
theorem se_un {r : V → Hp → VK → Prop} {f : PD → Option PD} (hr : SU r f) (ha : SE ta a) : SE (tUn r ta) (xUn f a) := fun ρ d h S σ H al en Q q => by
  obtain ⟨x, h1, h⟩ := bind_some h
  exact ha ρ x h1 S σ H al en _ fun vx H1 e1 rx => hr x d h S H1 vx (al.ex e1) rx Q fun v H3 e3 rv => q v H3 (e1.trans e3) rv
theorem sa_nil : SA tNil xNil := fun ρ ds h S σ H _ _ Q q => by cases h; exact q [] H (Ex.refl H) .nil
theorem sa_cons (ha : SE ta a) (hs : SA ts as) : SA (tCons ta ts) (xCons a as) := fun ρ ds h S σ H al en Q q => by
  obtain ⟨x, h1, h⟩ := bind_some h
  obtain ⟨xs, h2, h⟩ := bind_some h
  cases h
  exact ha ρ x h1 S σ H al en _ fun v H1 e1 rv => hs ρ xs h2 S σ H1 (al.ex e1) (en.ex (hid_ex e1)) _ fun vs H2 e2 rs => q (v :: vs) H2 (e1.trans e2) (.cons (rv.ex (hid_ex e2)) rs)
theorem se_tup (hs : SA ts as) : SE (tTupF ts) (xTup as) := fun ρ d h S σ H al en Q q => by
  obtain ⟨ds, h1, h⟩ := bind_some h
  by_cases hl : ds.length ≤ 100000
  · rw [if_pos hl] at h
    cases h
    refine hs ρ ds h1 S σ H al en _ fun vs H1 e1 ra => ⟨by rw [ra.length]; exact Evl.sz_of hl, fun p o hp pl => q _ _ (e1.trans (Ex.new hp)) (.tup (new_ok (al.ex e1) hp) pl (ra.ex (hid_ex (Ex.new hp))))⟩
  · rw [if_neg hl] at h; cases h
theorem se_lst (hs : SA ts as) : SE (tLst ts) (xLst as) := fun ρ d h S σ H al en Q q => by
  obtain ⟨ds, h1, h⟩ := bind_some h
  by_cases hl : ds.length ≤ 100000
  · rw [if_pos hl] at h
    cases h
    refine hs ρ ds h1 S σ H al en _ fun vs H1 e1 ra => ⟨by rw [ra.length]; exact Evl.sz_of hl, fun p hp => q _ _ (e1.trans (Ex.new hp)) (.lst (new_ok (al.ex e1) hp) (ra.ex (hid_ex (Ex.new hp))))⟩
  · rw [if_neg hl] at h; cases h
theorem se_cb {r : List V → Hp → VK → Prop} {f : List PD → Option PD} (hr : SC r f) (hs : SA ts as) : SE (tCB r ts) (xCB f as) := fun ρ d h S σ H al en Q q => by
  obtain ⟨ds, h1, h⟩ := bind_some h
  exact hs ρ ds h1 S σ H al en _ fun vs H1 e1 rv => hr ds d h S H1 vs (al.ex e1) rv Q fun v H2 e2 r2 => q v H2 (e1.trans e2) r2
theorem st_B (ha : SE ta a) : ST (tB ta) (xB a) := fun ρ b h S σ H al en Q q => by
  obtain ⟨x, h1, h⟩ := bind_some h
  have e := isB_eq h
  subst e
  exact ha ρ _ h1 S σ H al en _ fun v H1 e1 rv => by cases rv; exact ⟨b, rfl, q H1 e1⟩
theorem st_test (ha : SE ta a) : ST (tTest ta) (xB a) := fun ρ b h S σ H al en Q q => by
  obtain ⟨x, h1, h⟩ := bind_some h
  have e := isB_eq h
  subst e
  exact ha ρ _ h1 S σ H al en _ fun v H1 e1 rv => by cases rv; exact ⟨b, rfl, q H1 e1⟩
theorem st_yes : ST tYes xYes := fun ρ b h S σ H al en Q q => by cases h; exact q H (Ex.refl H)
theorem st_not (ht : ST t p) : ST (tNot t) (xTNot p) := fun ρ b h S σ H al en Q q => by
  obtain ⟨c, h1, h⟩ := bind_some h
  cases h
  exact ht ρ c h1 S σ H al en _ fun H1 e1 => q H1 e1
theorem st_and (ht : ST t p) (hu : ST u q) : ST (tAnd t u) (xTAnd p q) := fun ρ b h S σ H al en Q k => by
  obtain ⟨c, h1, h⟩ := bind_some h
  refine ht ρ c h1 S σ H al en _ fun H1 e1 => ?_
  cases c with
  | true => exact hu ρ b h S σ H1 (al.ex e1) (en.ex (hid_ex e1)) Q fun H2 e2 => k H2 (e1.trans e2)
  | false => cases h; exact k H1 e1
theorem st_or (ht : ST t p) (hu : ST u q) : ST (tOr t u) (xTOr p q) := fun ρ b h S σ H al en Q k => by
  obtain ⟨c, h1, h⟩ := bind_some h
  refine ht ρ c h1 S σ H al en _ fun H1 e1 => ?_
  cases c with
  | true => cases h; exact k H1 e1
  | false => exact hu ρ b h S σ H1 (al.ex e1) (en.ex (hid_ex e1)) Q fun H2 e2 => k H2 (e1.trans e2)
theorem se_and (ha : SE ta a) (hb : SE tb b) : SE (tAndV ta tb) (xAnd a b) := fun ρ d h S σ H al en Q q => by
  obtain ⟨c, h1, h⟩ := bind_some h
  obtain ⟨x, h0, h1⟩ := bind_some h1
  have e := isB_eq h1
  subst e
  refine ha ρ _ h0 S σ H al en _ fun v H1 e1 rv => ?_
  cases rv
  refine ⟨c, rfl, ?_⟩
  cases c with
  | true => exact hb ρ d h S σ H1 (al.ex e1) (en.ex (hid_ex e1)) Q fun v H2 e2 r2 => q v H2 (e1.trans e2) r2
  | false => cases h; exact q _ H1 e1 (.bl false)
theorem se_or (ha : SE ta a) (hb : SE tb b) : SE (tOrV ta tb) (xOr a b) := fun ρ d h S σ H al en Q q => by
  obtain ⟨c, h1, h⟩ := bind_some h
  obtain ⟨x, h0, h1⟩ := bind_some h1
  have e := isB_eq h1
  subst e
  refine ha ρ _ h0 S σ H al en _ fun v H1 e1 rv => ?_
  cases rv
  refine ⟨c, rfl, ?_⟩
  cases c with
  | true => cases h; exact q _ H1 e1 (.bl true)
  | false => exact hb ρ d h S σ H1 (al.ex e1) (en.ex (hid_ex e1)) Q fun v H2 e2 r2 => q v H2 (e1.trans e2) r2
theorem se_not (ha : SE ta a) : SE (tNotV ta) (xNot a) := fun ρ d h S σ H al en Q q => by
  obtain ⟨c, h1, h⟩ := bind_some h
  obtain ⟨x, h0, h1⟩ := bind_some h1
  have e := isB_eq h1
  subst e
  cases h
  refine ha ρ _ h0 S σ H al en _ fun v H1 e1 rv => ?_
  cases rv
  exact ⟨c, rfl, q _ H1 e1 (.bl _)⟩
theorem se_if (ht : ST t p) (ha : SE ta a) (hb : SE tb b) : SE (tIf t ta tb) (xIf p a b) := fun ρ d h S σ H al en Q q => by
  obtain ⟨c, h1, h⟩ := bind_some h
  refine ht ρ c h1 S σ H al en _ fun H1 e1 => ?_
  cases c with
  | true => exact ha ρ d h S σ H1 (al.ex e1) (en.ex (hid_ex e1)) Q fun v H2 e2 r2 => q v H2 (e1.trans e2) r2
  | false => exact hb ρ d h S σ H1 (al.ex e1) (en.ex (hid_ex e1)) Q fun v H2 e2 r2 => q v H2 (e1.trans e2) r2
theorem se_chain (hr : SO r f) (hr' : SO r' g) (ha : SE ta a) (hb : SE tb b) (hc : SE tc c) : SE (tChain r r' ta tb tc) (xChain f g a b c) := fun ρ d h S σ H al en Q q => by
  obtain ⟨x, h1, h⟩ := bind_some h
  obtain ⟨y, h2, h⟩ := bind_some h
  obtain ⟨k, h3, h⟩ := bind_some h
  obtain ⟨w, h3, h4⟩ := bind_some h3
  have e := isB_eq h4
  subst e
  refine ha ρ x h1 S σ H al en _ fun vx H1 e1 rx => hb ρ y h2 S σ H1 (al.ex e1) (en.ex (hid_ex e1)) _ fun vy H2 e2 ry => hr x y _ h3 S H2 vx vy ((al.ex e1).ex e2) (rx.ex (hid_ex e2)) ry _ fun v H3 e3 rv => ?_
  cases rv
  refine ⟨k, rfl, ?_⟩
  have e13 := (e1.trans e2).trans e3
  cases k with
  | true =>
    obtain ⟨z, h5, h⟩ := bind_some h
    refine iteT (hc ρ z h5 S σ H3 (al.ex e13) (en.ex (hid_ex e13)) _ fun vz H4 e4 rz => ?_)
    exact hr' y z d h S H4 vy vz ((al.ex e13).ex e4) (ry.ex ((hid_ex e3).trans (hid_ex e4))) rz Q fun w H5 e5 rw' => q w H5 ((e13.trans e4).trans e5) rw'
  | false => cases h; exact iteF (q _ H3 e13 (.bl false))
/-! a weaker reading: one of two -/
theorem se_inl {ta tb : TE} (h : SE ta a) : SE (fun σ H Q => ta σ H Q ∨ tb σ H Q) a := fun ρ d e S σ H al en Q q => .inl (h ρ d e S σ H al en Q q)
end
end Uv

namespace Uv
open PySem PySem.Spec PyProof.Rows L2
open Evl (Ex)
variable [kk : KK]
/-! ### one rule of two -/
theorem OpR.or {X : Cx} {f : Value → Value → Sem Value} {r r' : R2} (h : OpR X f r) (h' : OpR X f r') : OpR X f (fun x y H Q => r x y H Q ∨ r' x y H Q) := fun pins s σ H x y v u Q I rx ry q =>
  q.elim (h pins s σ H x y v u Q I rx ry) (h' pins s σ H x y v u Q I rx ry)
theorem CallR.or {X : Cx} {f : Value} {r r' : List V → Hp → VK → Prop} (h : CallR X f r) (h' : CallR X f r') : CallR X f (fun xs H Q => r xs H Q ∨ r' xs H Q) := fun pins s σ H xs us Q I rx q =>
  q.elim (h pins s σ H xs us Q I rx) (h' pins s σ H xs us Q I rx)
theorem SlR.or {X : Cx} {r r' : V → Option Int → Option Int → Hp → VK → Prop} (h : SlR X r) (h' : SlR X r') : SlR X (fun x lo hi H Q => r x lo hi H Q ∨ r' x lo hi H Q) := fun pins s σ H x v vl vu lo hi sl Q I rx hs pl pu q =>
  q.elim (h pins s σ H x v vl vu lo hi sl Q I rx hs pl pu) (h' pins s σ H x v vl vu lo hi sl Q I rx hs pl pu)
theorem PE.or {X : Cx} {e : Expr} {t u : TE} (h : PE X e t) (h' : PE X e u) : PE X e (fun σ H Q => t σ H Q ∨ u σ H Q) := ⟨fun pins s σ H Q I q => q.elim (h.run pins s σ H Q I) (h'.run pins s σ H Q I)⟩
theorem PI.or {X : Cx} {tg e : Expr} {t u : TI} (h : PI X tg e t) (h' : PI X tg e u) : PI X tg e (fun σ H Q => t σ H Q ∨ u σ H Q) := ⟨fun pins s σ H Q I q => q.elim (h.run pins s σ H Q I) (h'.run pins s σ H Q I)⟩
/-! ### short names -/
abbrev oSub : R2 := rI0 fun i j => .int (i - j)
abbrev oDivW : R2 := rI CDivW fun i j => .int (i / j)
abbrev oMod : R2 := rI (fun _ j => 0 < j) fun i j => .int (i % j)
abbrev oPow : R2 := rI CPow fun i j => .int (i ^ j.toNat)
abbrev oLt : R2 := rI0 fun i j => .bl (decide (i < j))
abbrev oLe : R2 := rI0 fun i j => .bl (decide (i ≤ j))
abbrev oGt : R2 := rI0 fun i j => .bl (decide (j < i))
abbrev oGe : R2 := rI0 fun i j => .bl (decide (j ≤ i))
abbrev oIsN : R2 := fun x y H Q => y = .non ∧ Q (.bl (decide (x = .non))) H
abbrev oNotN : R2 := fun x y H Q => y = .non ∧ Q (.bl (!decide (x = .non))) H
abbrev oNeg : V → Hp → VK → Prop := rU fun i => .int (-i)
abbrev rAbsQ : List V → Hp → VK → Prop := fun xs H Q => ∃ i, xs = [.int i] ∧ Q (.int (if i < 0 then -i else i)) H
abbrev rIntQ : List V → Hp → VK → Prop := fun xs H Q => (∃ i, xs = [.int i] ∧ Q (.int i) H) ∨ ∃ k, xs = [.bl k] ∧ Q (.int (if k then 1 else 0)) H
section
/-! ### + -/
def addP : PD → PD → Option PD
  | .int i, .int j => some (.int (i + j))
  | .list xs, .list ys => if xs.length + ys.length ≤ 100000 then some (.list (xs ++ ys)) else none
  | .tuple xs, .tuple ys => if xs.length + ys.length ≤ 100000 then some (.tuple (xs ++ ys)) else none
  | _, _ => none
def rAddU (K : PySem.W.Frag) : R2 := fun x y H Q => rI0 (fun i j => .int (i + j)) x y H Q ∨ (rCat x y H Q ∨ rCatF K x y H Q)
theorem op_addU {X : Cx} : OpR X (binaryOp .Add) (rAddU X.K) := OpR.or op_add (OpR.or op_cat op_catF)
theorem so_add : SO (rAddU K) addP := fun x y z h S H vx vy al rx ry Q q => by
  cases rx with
  | int i =>
    cases ry with
    | int j =>
      cases h
      exact .inl ⟨i, j, rfl, rfl, q _ H (Ex.refl H) (.int _)⟩
    | _ => cases h
  | @lst a xs ds ha ra =>
    cases ry with
    | @lst b ys es hb rb =>
      have h : (if ds.length + es.length ≤ 100000 then some (PyData.list (ds ++ es)) else none) = some z := h
      by_cases c : ds.length + es.length ≤ 100000
      · rw [if_pos c] at h
        cases h
        refine .inr (.inl ⟨a, b, xs, ys, rfl, rfl, hid_le _ _ ha, hid_le _ _ hb, by rw [ra.length, rb.length]; exact Evl.sz_of c, fun p hp => q _ _ (Ex.new hp) (.lst (new_ok al hp) ((ra.append rb).ex (hid_ex (Ex.new hp))))⟩)
      · rw [if_neg c] at h; cases h
    | _ => cases h
  | @tup a o xs ds ha pa ra =>
    cases ry with
    | @tup b o' ys es hb pb rb =>
      have h : (if ds.length + es.length ≤ 100000 then some (PyData.tuple (ds ++ es)) else none) = some z := h
      by_cases c : ds.length + es.length ≤ 100000
      · rw [if_pos c] at h
        cases h
        refine .inr (.inr ⟨a, b, xs, ys, rfl, rfl, .inl (.inr ⟨_, hid_le _ _ ha⟩), .inl (.inr ⟨_, hid_le _ _ hb⟩), by rw [ra.length, rb.length]; exact Evl.sz_of c, fun e => ?_, fun _ e => ?_, fun _ _ p o hp pl => q _ _ (Ex.new hp) (.tup (new_ok al hp) pl ((ra.append rb).ex (hid_ex (Ex.new hp))))⟩)
        · subst e
          cases ra
          exact q _ H (Ex.refl H) (.tup hb pb rb)
        · subst e
          cases rb
          exact q _ H (Ex.refl H) (by rw [List.append_nil]; exact .tup ha pa ra)
      · rw [if_neg c] at h; cases h
    | _ => cases h
  | _ => cases h
/-! ### numbers -/
def intF (f : Int → Int → Option PD) : PD → PD → Option PD
  | .int i, .int j => f i j
  | _, _ => none
theorem intF_eq {f : Int → Int → Option PD} {x y z : PD} (h : intF f x y = some z) : ∃ i j, x = .int i ∧ y = .int j ∧ f i j = some z := by
  cases x with
  | int i =>
    cases y with
    | int j => exact ⟨i, j, rfl, rfl, h⟩
    | _ => cases h
  | _ => cases h
theorem so_rI {C : Int → Int → Prop} {g : Int → Int → Int} {f : Int → Int → Option PD} (hf : ∀ i j z, f i j = some z → C i j ∧ z = .int (g i j)) : SO (rI C fun i j => .int (g i j)) (intF f) := fun x y z h S H vx vy al rx ry Q q => by
  obtain ⟨i, j, rfl, rfl, h⟩ := intF_eq h
  obtain ⟨h1, rfl⟩ := hf i j z h
  cases rx; cases ry
  exact ⟨i, j, rfl, rfl, h1, q _ H (Ex.refl H) (.int _)⟩
theorem so_rI0 {g : Int → Int → Int} : SO (rI0 fun i j => .int (g i j)) (intF fun i j => some (.int (g i j))) := fun x y z h S H vx vy al rx ry Q q => by
  obtain ⟨i, j, rfl, rfl, h⟩ := intF_eq h
  cases h
  cases rx; cases ry
  exact ⟨i, j, rfl, rfl, q _ H (Ex.refl H) (.int _)⟩
theorem so_rIb {g : Int → Int → Bool} : SO (rI0 fun i j => .bl (g i j)) (intF fun i j => some (.bool (g i j))) := fun x y z h S H vx vy al rx ry Q q => by
  obtain ⟨i, j, rfl, rfl, h⟩ := intF_eq h
  cases h
  cases rx; cases ry
  exact ⟨i, j, rfl, rfl, q _ H (Ex.refl H) (.bl _)⟩
def subP : PD → PD → Option PD := intF fun i j => some (.int (i - j))
def divP : PD → PD → Option PD := intF fun i j => if 0 < j ∧ j < 2 ^ 64 then some (.int (i / j)) else none
def modP : PD → PD → Option PD := intF fun i j => if 0 < j then some (.int (i % j)) else none
def powP : PD → PD → Option PD := intF fun i j => if 0 ≤ j ∧ j ≤ 1000 ∧ -(2 ^ 63) < i ∧ i < 2 ^ 63 then some (.int (i ^ j.toNat)) else none
def ltP : PD → PD → Option PD := intF fun i j => some (.bool (decide (i < j)))
def leP : PD → PD → Option PD := intF fun i j => some (.bool (decide (i ≤ j)))
def gtP : PD → PD → Option PD := intF fun i j => some (.bool (decide (j < i)))
def geP : PD → PD → Option PD := intF fun i j => some (.bool (decide (j ≤ i)))
theorem so_sub : SO oSub subP := so_rI0
theorem so_lt : SO oLt ltP := so_rIb
theorem so_le : SO oLe leP := so_rIb
theorem so_gt : SO oGt gtP := so_rIb
theorem so_ge : SO oGe geP := so_rIb
theorem so_div : SO oDivW divP := so_rI fun i j z h => by
  by_cases c : 0 < j ∧ j < 2 ^ 64
  · rw [if_pos c] at h
    cases h
    exact ⟨⟨c.1, Nat.lt_of_lt_of_le (PySem.Flt.log2_lt_of (k := 64) (by decide) (by omega)) (by decide)⟩, rfl⟩
  · rw [if_neg c] at h; cases h
theorem so_mod : SO oMod modP := so_rI fun i j z h => by
  by_cases c : 0 < j
  · rw [if_pos c] at h
    cases h
    exact ⟨c, rfl⟩
  · rw [if_neg c] at h; cases h
theorem so_pow : SO oPow powP := so_rI fun i j z h => by
  by_cases c : 0 ≤ j ∧ j ≤ 1000 ∧ -(2 ^ 63) < i ∧ i < 2 ^ 63
  · rw [if_pos c] at h
    cases h
    exact ⟨⟨c.1, by omega, by omega⟩, rfl⟩
  · rw [if_neg c] at h; cases h
def mulP : PD → PD → Option PD
  | .int i, .int j => if (-(2 ^ 64) < i ∧ i < 2 ^ 64) ∨ (-(2 ^ 64) < j ∧ j < 2 ^ 64) then some (.int (i * j)) else none
  | .list xs, .int j => if 0 ≤ j ∧ j ≤ 100000 ∧ xs.length * j.toNat ≤ 100000 then some (.list (List.replicate j.toNat xs).flatten) else none
  | _, _ => none
def rMulU : R2 := fun x y H Q => rI CMul (fun i j => .int (i * j)) x y H Q ∨ rRep x y H Q
theorem op_mulU {X : Cx} : OpR X (binaryOp .Mult) rMulU := OpR.or op_mul op_rep
theorem so_mul : SO rMulU mulP := fun x y z h S H vx vy al rx ry Q q => by
  cases rx with
  | int i =>
    cases ry with
    | int j =>
      have h : (if (-(2 ^ 64) < i ∧ i < 2 ^ 64) ∨ (-(2 ^ 64) < j ∧ j < 2 ^ 64) then some (PyData.int (i * j)) else none) = some z := h
      by_cases c : (-(2 ^ 64) < i ∧ i < 2 ^ 64) ∨ (-(2 ^ 64) < j ∧ j < 2 ^ 64)
      · rw [if_pos c] at h
        cases h
        exact .inl ⟨i, j, rfl, rfl, c, q _ H (Ex.refl H) (.int _)⟩
      · rw [if_neg c] at h; cases h
    | _ => cases h
  | @lst a xs ds ha ra =>
    cases ry with
    | int j =>
      have h : (if 0 ≤ j ∧ j ≤ 100000 ∧ ds.length * j.toNat ≤ 100000 then some (PyData.list (List.replicate j.toNat ds).flatten) else none) = some z := h
      by_cases c : 0 ≤ j ∧ j ≤ 100000 ∧ ds.length * j.toNat ≤ 100000
      · rw [if_pos c] at h
        cases h
        refine .inr ⟨_, _, _, rfl, rfl, hid_le _ _ ha, by omega, by omega, ?_, fun p hp => q _ _ (Ex.new hp) (.lst (new_ok al hp) ((ra.rep j.toNat).ex (hid_ex (Ex.new hp))))⟩
        rw [ra.length]
        exact Evl.sz_of c.2.2
      · rw [if_neg c] at h; cases h
    | _ => cases h
  | _ => cases h
def negP : PD → Option PD
  | .int i => some (.int (-i))
  | _ => none
theorem su_neg : SU oNeg negP := fun x z h S H vx al rx Q q => by
  cases rx with
  | int i => cases h; exact ⟨i, rfl, q _ H (Ex.refl H) (.int _)⟩
  | _ => cases h
/-! ### equality, None, membership -/
def eqP (x y : PD) : Option PD := if SeqAt.shaped x = true ∧ SeqAt.shaped y = true then some (.bool (PyData.eqv x y)) else none
def neP (x y : PD) : Option PD := if SeqAt.shaped x = true ∧ SeqAt.shaped y = true then some (.bool (!PyData.eqv x y)) else none
theorem nodict {d : PD} (h : SeqAt.shaped d = true) : d.hasDict = false := by
  unfold SeqAt.shaped at h
  rw [Bool.and_eq_true] at h
  exact PyData.hasDict_of_canLay d h.1
theorem so_eq : SO (rEqD K) eqP := fun x y z h S H vx vy al rx ry Q q => by
  unfold eqP at h
  by_cases c : SeqAt.shaped x = true ∧ SeqAt.shaped y = true
  · rw [if_pos c] at h
    cases h
    exact ⟨x, y, (rx.ex hid_le).dp (nodict c.1), (ry.ex hid_le).dp (nodict c.2), c.1, c.2, q _ H (Ex.refl H) (.bl _)⟩
  · rw [if_neg c] at h; cases h
theorem so_ne : SO (rNeD K) neP := fun x y z h S H vx vy al rx ry Q q => by
  unfold neP at h
  by_cases c : SeqAt.shaped x = true ∧ SeqAt.shaped y = true
  · rw [if_pos c] at h
    cases h
    exact ⟨x, y, (rx.ex hid_le).dp (nodict c.1), (ry.ex hid_le).dp (nodict c.2), c.1, c.2, q _ H (Ex.refl H) (.bl _)⟩
  · rw [if_neg c] at h; cases h
def isNone : PD → Bool
  | .none => true
  | _ => false
def isP : PD → PD → Option PD
  | x, .none => some (.bool (isNone x))
  | _, _ => none
def isntP : PD → PD → Option PD
  | x, .none => some (.bool (!isNone x))
  | _, _ => none
theorem isNone_of {H : Hp} {v : V} {d : PD} (r : Rp H v d) : decide (v = .non) = isNone d := by cases r <;> rfl
theorem so_is : SO oIsN isP := fun x y z h S H vx vy al rx ry Q q => by
  cases ry with
  | non =>
    cases h
    exact ⟨rfl, q _ H (Ex.refl H) (by rw [isNone_of rx]; exact .bl _)⟩
  | _ => cases h
theorem so_isnt : SO oNotN isntP := fun x y z h S H vx vy al rx ry Q q => by
  cases ry with
  | non =>
    cases h
    exact ⟨rfl, q _ H (Ex.refl H) (by rw [isNone_of rx]; exact .bl _)⟩
  | _ => cases h
/-- x in a tuple whose items are data of any depth -/
def rInTu (K : PySem.W.Frag) : R2 := fun x y H Q => ∃ d ds, Dp K H x d ∧ Dp K H y (.tuple ds) ∧ SeqAt.shaped d = true ∧ SeqAt.shaped (.tuple ds) = true ∧ Q (.bl (ds.any fun z => PyData.eqv z d)) H
theorem op_inTu {X : Cx} (hu : X.A.units + 65 < cLine) : OpR X (compareOp .In) (rInTu X.K) := by
  intro pins s σ H x y v u Q I rx ry h
  obtain ⟨d, ds, h1, h2, s1, s2, q⟩ := h
  obtain ⟨as, r1⟩ := Dp.reads I d x v h1 rx
  obtain ⟨bs, r2⟩ := Dp.reads I (.tuple ds) y u h2 ry
  exact SeqAt.in_tuple_reads r2 r1 (SeqAt.canLay_of_shaped s2) (SeqAt.canLay_of_shaped s1) (room_in_shaped s1 hu) ⟨.bl _, H, I, rfl, q⟩
def rNotInTu (K : PySem.W.Frag) : R2 := fun x y H Q => ∃ d ds, Dp K H x d ∧ Dp K H y (.tuple ds) ∧ SeqAt.shaped d = true ∧ SeqAt.shaped (.tuple ds) = true ∧ Q (.bl (!ds.any fun z => PyData.eqv z d)) H
def rInU (K : PySem.W.Frag) : R2 := fun x y H Q => rInD K x y H Q ∨ rInTu K x y H Q
theorem op_inU {X : Cx} (hu : X.A.units + 65 < cLine) : OpR X (compareOp .In) (rInU X.K) := OpR.or (op_inD hu) (op_inTu hu)
def inP (x y : PD) : Option PD := if SeqAt.shaped x = true ∧ SeqAt.shaped y = true then match y with
  | .list ds => some (.bool (ds.any fun z => PyData.eqv z x))
  | .tuple ds => some (.bool (ds.any fun z => PyData.eqv z x))
  | _ => none else none
theorem so_in : SO (rInU K) inP := fun x y z h S H vx vy al rx ry Q q => by
  unfold inP at h
  by_cases c : SeqAt.shaped x = true ∧ SeqAt.shaped y = true
  · rw [if_pos c] at h
    cases y with
    | list ds =>
      cases h
      exact .inl ⟨x, ds, (rx.ex hid_le).dp (nodict c.1), (ry.ex hid_le).dp (nodict c.2), c.1, c.2, q _ H (Ex.refl H) (.bl _)⟩
    | tuple ds =>
      cases h
      exact .inr ⟨x, ds, (rx.ex hid_le).dp (nodict c.1), (ry.ex hid_le).dp (nodict c.2), c.1, c.2, q _ H (Ex.refl H) (.bl _)⟩
    | _ => cases h
  · rw [if_neg c] at h; cases h
/-! ### index, slice -/
def ixP : PD → PD → Option PD
  | .tuple ds, .int i => atI ds i
  | .list ds, .int i => atI ds i
  | .dict [(.none, .list ds)], .int i => atI ds i
  | _, _ => none
theorem so_ix : SO (rIx K) ixP := fun x y z h S H vx vy al rx ry Q q => by
  cases rx with
  | lst ha ra =>
    cases ry with
    | int i =>
      obtain ⟨v, h1, h2⟩ := ra.at h
      exact .inl ⟨_, _, i, v, rfl, rfl, .inl (.inl (hid_le _ _ ha)), h1, q v H (Ex.refl H) h2⟩
    | _ => cases h
  | tup ha _ ra =>
    cases ry with
    | int i =>
      obtain ⟨v, h1, h2⟩ := ra.at h
      exact .inr (.inl ⟨_, _, i, v, rfl, rfl, .inl (.inr ⟨_, hid_le _ _ ha⟩), h1, q v H (Ex.refl H) h2⟩)
    | _ => cases h
  | scr hs ra =>
    cases ry with
    | int i =>
      obtain ⟨v, h1, h2⟩ := ra.at h
      exact .inl ⟨_, _, i, v, rfl, rfl, sqx hid_le hs, h1, q v H (Ex.refl H) h2⟩
    | _ => cases h
  | _ => cases h
abbrev XO := VE → Option (Option Int)
def Eo (to : TO) (ρ : VE) (o : Option Int) : Prop := ∀ S σ H, Al S H → En (hid S H) σ ρ → ∀ Q : Option Int → Hp → Prop, (∀ H2, Ex H H2 → Q o H2) → to σ H Q
def SP (to : TO) (x : XO) : Prop := ∀ ρ o, x ρ = some o → Eo to ρ o
def xNoPart : XO := fun _ => some none
def xPart (a : XE) : XO := fun ρ => (a ρ).bind fun d => match d with
  | .int i => some (some i)
  | _ => none
theorem sp_none : SP tNoPart xNoPart := fun ρ o h S σ H al en Q q => by cases h; exact q H (Ex.refl H)
theorem sp_some {ta : TE} {a : XE} (ha : SE ta a) : SP (tPart ta) (xPart a) := fun ρ o h S σ H al en Q q => by
  obtain ⟨d, h1, h⟩ := bind_some h
  cases d with
  | int i =>
    cases h
    exact ha ρ _ h1 S σ H al en _ fun v H1 e1 rv => by cases rv; exact ⟨i, rfl, q H1 e1⟩
  | _ => cases h
def cutD (ds : List PD) (lo hi : Option Int) : List PD := (ds.drop (HT.sIx ds.length 0 lo)).take (HT.sIx ds.length ds.length hi - HT.sIx ds.length 0 lo)
def slP : PD → Option Int → Option Int → Option PD
  | .list ds, lo, hi => some (.list (cutD ds lo hi))
  | .tuple ds, lo, hi => some (.tuple (cutD ds lo hi))
  | .dict [(.none, .list ds)], lo, hi => some (.list (cutD ds lo hi))
  | _, _, _ => none
def rSlU (K : PySem.W.Frag) : V → Option Int → Option Int → Hp → VK → Prop := fun x lo hi H Q => rSlL K x lo hi H Q ∨ rSlF K x lo hi H Q
theorem sl_U {X : Cx} : SlR X (rSlU X.K) := SlR.or sl_list sl_tupF
def xSl (a : XE) (lo hi : XO) : XE := fun ρ => (a ρ).bind fun d => (lo ρ).bind fun l => (hi ρ).bind fun h => slP d l h
theorem RpAll.cut {H : Hp} {vs : List V} {ds : List PD} (r : RpAll H vs ds) (lo hi : Option Int) : RpAll H (cutV vs lo hi) (cutD ds lo hi) := by
  unfold cutV cutD
  rw [r.length]
  exact (r.drop _).take _
theorem se_sl {ta : TE} {tl th : TO} {a : XE} {lo hi : XO} (ha : SE ta a) (hl : SP tl lo) (hh : SP th hi) : SE (tSl (rSlU K) ta tl th) (xSl a lo hi) := fun ρ d h S σ H al en Q q => by
  obtain ⟨x, h1, h⟩ := bind_some h
  obtain ⟨l, h2, h⟩ := bind_some h
  obtain ⟨u, h3, h⟩ := bind_some h
  refine ha ρ x h1 S σ H al en _ fun v H1 e1 rv => hl ρ l h2 S σ H1 (al.ex e1) (en.ex (hid_ex e1)) _ fun H2 e2 => hh ρ u h3 S σ H2 ((al.ex e1).ex e2) ((en.ex (hid_ex e1)).ex (hid_ex e2)) _ fun H3 e3 => ?_
  have e23 := e2.trans e3
  have e13 := e1.trans e23
  have rv3 := rv.ex (hid_ex (S := S) e23)
  cases rv3 with
  | lst ha3 ra3 =>
    cases h
    exact .inl ⟨_, _, rfl, .inl (.inl (hid_le _ _ ha3)), fun p hp => q _ _ (e13.trans (Ex.new hp)) (.lst (new_ok (al.ex e13) hp) ((ra3.cut l u).ex (hid_ex (Ex.new hp))))⟩
  | @tup a o xs ds ha3 pl ra3 =>
    cases h
    refine .inr ⟨_, _, rfl, .inl (.inr ⟨_, hid_le _ _ ha3⟩), fun c => ?_, fun _ p o hp pl => q _ _ (e13.trans (Ex.new hp)) (.tup (new_ok (al.ex e13) hp) pl ((ra3.cut l u).ex (hid_ex (Ex.new hp))))⟩
    have e : cutD ds l u = ds := by
      unfold cutD
      rw [ra3.length] at c
      rw [c.1, c.2, List.drop_zero, Nat.sub_zero, List.take_length]
    exact q _ H3 e13 (by rw [e]; exact .tup ha3 pl ra3)
  | scr hs ra3 =>
    cases h
    exact .inl ⟨_, _, rfl, sqx hid_le hs, fun p hp => q _ _ (e13.trans (Ex.new hp)) (.lst (new_ok (al.ex e13) hp) ((ra3.cut l u).ex (hid_ex (Ex.new hp))))⟩
  | _ => cases h
end
end Uv

namespace Uv
open PySem PySem.Spec PyProof.Rows L2
open Evl (Ex)
variable [kk : KK]
/-! ### not in -/
theorem op_notInTu {X : Cx} (hu : X.A.units + 65 < cLine) : OpR X (compareOp .NotIn) (rNotInTu X.K) := by
  intro pins s σ H x y v u Q I rx ry ⟨d, ds, h1, h2, s1, s2, q⟩
  obtain ⟨as, r1⟩ := Dp.reads I d x v h1 rx
  obtain ⟨bs, r2⟩ := Dp.reads I (.tuple ds) y u h2 ry
  exact SeqAt.notIn_tuple_reads r2 r1 (SeqAt.canLay_of_shaped s2) (SeqAt.canLay_of_shaped s1) (room_in_shaped s1 hu) ⟨.bl _, H, I, rfl, q⟩
def rNotInU (K : PySem.W.Frag) : R2 := fun x y H Q => rNotInD K x y H Q ∨ rNotInTu K x y H Q
theorem op_notInU {X : Cx} (hu : X.A.units + 65 < cLine) : OpR X (compareOp .NotIn) (rNotInU X.K) := OpR.or (op_notInD hu) (op_notInTu hu)
def notinP (x y : PD) : Option PD := if SeqAt.shaped x = true ∧ SeqAt.shaped y = true then match y with
  | .list ds => some (.bool (!ds.any fun z => PyData.eqv z x))
  | .tuple ds => some (.bool (!ds.any fun z => PyData.eqv z x))
  | _ => none else none
section
theorem so_notin : SO (rNotInU K) notinP := fun x y z h S H vx vy al rx ry Q q => by
  unfold notinP at h
  by_cases c : SeqAt.shaped x = true ∧ SeqAt.shaped y = true
  · rw [if_pos c] at h
    cases y with
    | list ds =>
      cases h
      exact .inl ⟨x, ds, (rx.ex hid_le).dp (nodict c.1), (ry.ex hid_le).dp (nodict c.2), c.1, c.2, q _ H (Ex.refl H) (.bl _)⟩
    | tuple ds =>
      cases h
      exact .inr ⟨x, ds, (rx.ex hid_le).dp (nodict c.1), (ry.ex hid_le).dp (nodict c.2), c.1, c.2, q _ H (Ex.refl H) (.bl _)⟩
    | _ => cases h
  · rw [if_neg c] at h; cases h
/-! ### arguments one by one -/
def on1 (f : PD → Option PD) : List PD → Option PD
  | [x] => f x
  | _ => none
def on2 (f : PD → PD → Option PD) : List PD → Option PD
  | [x, y] => f x y
  | _ => none
theorem on1_eq {f : PD → Option PD} {xs : List PD} {z : PD} (h : on1 f xs = some z) : ∃ x, xs = [x] ∧ f x = some z := by
  match xs, h with
  | [x], h => exact ⟨x, rfl, h⟩
  | [], h => cases h
  | _ :: _ :: _, h => cases h
theorem on2_eq {f : PD → PD → Option PD} {xs : List PD} {z : PD} (h : on2 f xs = some z) : ∃ x y, xs = [x, y] ∧ f x y = some z := by
  match xs, h with
  | [x, y], h => exact ⟨x, y, rfl, h⟩
  | [], h => cases h
  | [_], h => cases h
  | _ :: _ :: _ :: _, h => cases h
theorem sc_on1 {r : List V → Hp → VK → Prop} {f : PD → Option PD} (hf : ∀ x z, f x = some z → ∀ S H v, Al S H → Rp (hid S H) v x → ∀ Q : VK, (∀ v H2, Ex H H2 → Rp (hid S H2) v z → Q v H2) → r [v] H Q) : SC r (on1 f) := fun xs z h S H vs al rv Q q => by
  obtain ⟨x, rfl, h⟩ := on1_eq h
  cases rv with
  | cons h1 t => cases t; exact hf x z h S H _ al h1 Q q
theorem sc_on2 {r : List V → Hp → VK → Prop} {f : PD → PD → Option PD} (hf : ∀ x y z, f x y = some z → ∀ S H v w, Al S H → Rp (hid S H) v x → Rp (hid S H) w y → ∀ Q : VK, (∀ v H2, Ex H H2 → Rp (hid S H2) v z → Q v H2) → r [v, w] H Q) : SC r (on2 f) := fun xs z h S H vs al rv Q q => by
  obtain ⟨x, y, rfl, h⟩ := on2_eq h
  cases rv with
  | cons h1 t =>
    cases t with
    | cons h2 t => cases t; exact hf x y z h S H _ _ al h1 h2 Q q
/-! ### len, abs, int -/
def rLenQ (K : PySem.W.Frag) : List V → Hp → VK → Prop := fun xs H Q => ∃ p ys, xs = [.ref p] ∧ (SqL K H p ys ∨ SqT K H p ys) ∧ Q (.int ys.length) H
def lenP : PD → Option PD
  | .list ds => some (.int (ds.length : Nat))
  | .tuple ds => some (.int (ds.length : Nat))
  | .dict [(.none, .list ds)] => some (.int (ds.length : Nat))
  | _ => none
theorem sc_len : SC (rLenQ K) (on1 lenP) := sc_on1 fun x z h S H v al rv Q q => by
  cases rv with
  | lst ha ra => cases h; exact ⟨_, _, rfl, .inl (.inl (.inl (hid_le _ _ ha))), q _ H (Ex.refl H) (ra.length ▸ .int _)⟩
  | tup ha _ ra => cases h; exact ⟨_, _, rfl, .inr (.inl (.inr ⟨_, hid_le _ _ ha⟩)), q _ H (Ex.refl H) (ra.length ▸ .int _)⟩
  | scr hs ra => cases h; exact ⟨_, _, rfl, .inl (sqx hid_le hs), q _ H (Ex.refl H) (ra.length ▸ .int _)⟩
  | _ => cases h
def absP : PD → Option PD
  | .int i => some (.int (if i < 0 then -i else i))
  | _ => none
theorem sc_abs : SC rAbsQ (on1 absP) := sc_on1 fun x z h S H v al rv Q q => by
  cases rv with
  | int i => cases h; exact ⟨i, rfl, q _ H (Ex.refl H) (.int _)⟩
  | _ => cases h
def toIntP : PD → Option PD
  | .int i => some (.int i)
  | .bool b => some (.int (if b then 1 else 0))
  | _ => none
theorem sc_int : SC rIntQ (on1 toIntP) := sc_on1 fun x z h S H v al rv Q q => by
  cases rv with
  | int i => cases h; exact .inl ⟨i, rfl, q _ H (Ex.refl H) (.int _)⟩
  | bl b => cases h; exact .inr ⟨b, rfl, q _ H (Ex.refl H) (.int _)⟩
  | _ => cases h
/-! ### sum, all, any, min, max -/
def intsP (f : List Int → Option PD) : PD → Option PD
  | .list ds => (unI ds).bind f
  | _ => none
def boolsP (f : List Bool → PD) : PD → Option PD
  | .list ds => (unB ds).bind fun bs => some (f bs)
  | _ => none
def sumP : PD → Option PD := intsP fun ns => some (.int ns.sum)
theorem sc_sum : SC (rSum K) (on1 sumP) := sc_on1 fun x z h S H v al rv Q q => by
  cases rv with
  | lst ha ra =>
    obtain ⟨ns, h1, h2⟩ := bind_some h
    have e := unI_eq h1
    subst e
    have e := ra.ints
    subst e
    cases h2
    exact ⟨_, ns, rfl, .inl (.inl (hid_le _ _ ha)), q _ H (Ex.refl H) (.int _)⟩
  | _ => cases h
def allP : PD → Option PD := boolsP fun bs => .bool (bs.all id)
def anyP : PD → Option PD := boolsP fun bs => .bool (bs.any id)
theorem sc_all : SC (rAll K) (on1 allP) := sc_on1 fun x z h S H v al rv Q q => by
  cases rv with
  | lst ha ra =>
    obtain ⟨ns, h1, h2⟩ := bind_some h
    have e := unB_eq h1
    subst e
    have e := ra.bools
    subst e
    cases h2
    exact ⟨_, ns, rfl, .inl (.inl (hid_le _ _ ha)), q _ H (Ex.refl H) (.bl _)⟩
  | _ => cases h
theorem sc_any : SC (rAny K) (on1 anyP) := sc_on1 fun x z h S H v al rv Q q => by
  cases rv with
  | lst ha ra =>
    obtain ⟨ns, h1, h2⟩ := bind_some h
    have e := unB_eq h1
    subst e
    have e := ra.bools
    subst e
    cases h2
    exact ⟨_, ns, rfl, .inl (.inl (hid_le _ _ ha)), q _ H (Ex.refl H) (.bl _)⟩
  | _ => cases h
def leastI : Int → List Int → Int
  | x, [] => x
  | x, y :: ys => leastI (if y < x then y else x) ys
def mostI : Int → List Int → Int
  | x, [] => x
  | x, y :: ys => mostI (if y > x then y else x) ys
theorem leastI_mem : ∀ (ys : List Int) (x : Int), leastI x ys ∈ x :: ys
  | [], x => List.mem_cons_self ..
  | y :: ys, x => by
    have z := leastI_mem ys (if y < x then y else x)
    unfold leastI
    by_cases c : y < x
    · rw [if_pos c] at z ⊢
      exact List.mem_cons_of_mem _ z
    · rw [if_neg c] at z ⊢
      rcases List.mem_cons.mp z with e | e
      · rw [e]; exact List.mem_cons_self ..
      · exact List.mem_cons_of_mem _ (List.mem_cons_of_mem _ e)
theorem leastI_le : ∀ (ys : List Int) (x : Int), ∀ y ∈ x :: ys, leastI x ys ≤ y
  | [], x, y, h => by
    have e : y = x := by simpa using h
    rw [e]
    exact Int.le_refl _
  | z :: ys, x, y, h => by
    unfold leastI
    have ih := leastI_le ys (if z < x then z else x)
    have i0 := ih _ (List.mem_cons_self ..)
    rcases List.mem_cons.mp h with e | h
    · subst e
      refine Int.le_trans i0 ?_
      split <;> omega
    · rcases List.mem_cons.mp h with e | h
      · subst e
        refine Int.le_trans i0 ?_
        split <;> omega
      · exact ih y (List.mem_cons_of_mem _ h)
theorem mostI_mem : ∀ (ys : List Int) (x : Int), mostI x ys ∈ x :: ys
  | [], x => List.mem_cons_self ..
  | y :: ys, x => by
    have z := mostI_mem ys (if y > x then y else x)
    unfold mostI
    by_cases c : y > x
    · rw [if_pos c] at z ⊢
      exact List.mem_cons_of_mem _ z
    · rw [if_neg c] at z ⊢
      rcases List.mem_cons.mp z with e | e
      · rw [e]; exact List.mem_cons_self ..
      · exact List.mem_cons_of_mem _ (List.mem_cons_of_mem _ e)
theorem mostI_ge : ∀ (ys : List Int) (x : Int), ∀ y ∈ x :: ys, y ≤ mostI x ys
  | [], x, y, h => by
    have e : y = x := by simpa using h
    rw [e]
    exact Int.le_refl _
  | z :: ys, x, y, h => by
    unfold mostI
    have ih := mostI_ge ys (if z > x then z else x)
    have i0 := ih _ (List.mem_cons_self ..)
    rcases List.mem_cons.mp h with e | h
    · subst e
      refine Int.le_trans ?_ i0
      split <;> omega
    · rcases List.mem_cons.mp h with e | h
      · subst e
        refine Int.le_trans ?_ i0
        split <;> omega
      · exact ih y (List.mem_cons_of_mem _ h)
def minL : List Int → Option PD
  | x :: xs => some (.int (leastI x xs))
  | [] => none
def maxL : List Int → Option PD
  | x :: xs => some (.int (mostI x xs))
  | [] => none
def minP : List PD → Option PD
  | [.list ds] => (unI ds).bind minL
  | [.int i, .int j] => some (.int (if j < i then j else i))
  | _ => none
def maxP : List PD → Option PD
  | [.list ds] => (unI ds).bind maxL
  | [.int i, .int j] => some (.int (if j > i then j else i))
  | _ => none
def rMinU (K : PySem.W.Frag) : List V → Hp → VK → Prop := fun xs H Q => rMin K xs H Q ∨ ∃ i j, xs = [.int i, .int j] ∧ Q (.int (if j < i then j else i)) H
def rMaxU (K : PySem.W.Frag) : List V → Hp → VK → Prop := fun xs H Q => rMax K xs H Q ∨ ∃ i j, xs = [.int i, .int j] ∧ Q (.int (if j > i then j else i)) H
theorem cr_minU {X : Cx} (hc : X.calm = true) : CallR X (.builtin "min") (rMinU X.K) := CallR.or (cr_min hc) (call_min2 hc)
theorem cr_maxU {X : Cx} (hc : X.calm = true) : CallR X (.builtin "max") (rMaxU X.K) := CallR.or (cr_max hc) (call_max2 hc)
theorem sc_min : SC (rMinU K) minP := fun xs z h S H vs al rv Q q => by
  unfold minP at h
  split at h
  · cases rv with
    | cons h1 t =>
      cases t
      cases h1 with
      | lst ha ra =>
        obtain ⟨ns, h1, h2⟩ := bind_some h
        have e := unI_eq h1
        subst e
        have e := ra.ints
        subst e
        cases ns with
        | nil => cases h2
        | cons n ns =>
          cases h2
          refine .inl ⟨_, n :: ns, rfl, .inl (.inl (hid_le _ _ ha)), Nat.succ_pos _, fun m m1 m2 => ?_⟩
          have e : m = leastI n ns := Int.le_antisymm (m2 _ (leastI_mem ns n)) (leastI_le ns n m m1)
          rw [e]
          exact q _ H (Ex.refl H) (.int _)
  · cases rv with
    | cons h1 t =>
      cases t with
      | cons h2 t =>
        cases t
        cases h1; cases h2; cases h
        exact .inr ⟨_, _, rfl, q _ H (Ex.refl H) (.int _)⟩
  · cases h
theorem sc_max : SC (rMaxU K) maxP := fun xs z h S H vs al rv Q q => by
  unfold maxP at h
  split at h
  · cases rv with
    | cons h1 t =>
      cases t
      cases h1 with
      | lst ha ra =>
        obtain ⟨ns, h1, h2⟩ := bind_some h
        have e := unI_eq h1
        subst e
        have e := ra.ints
        subst e
        cases ns with
        | nil => cases h2
        | cons n ns =>
          cases h2
          refine .inl ⟨_, n :: ns, rfl, .inl (.inl (hid_le _ _ ha)), Nat.succ_pos _, fun m m1 m2 => ?_⟩
          have e : m = mostI n ns := Int.le_antisymm (mostI_ge ns n m m1) (m2 _ (mostI_mem ns n))
          rw [e]
          exact q _ H (Ex.refl H) (.int _)
  · cases rv with
    | cons h1 t =>
      cases t with
      | cons h2 t =>
        cases t
        cases h1; cases h2; cases h
        exact .inr ⟨_, _, rfl, q _ H (Ex.refl H) (.int _)⟩
  · cases h
/-! ### tuple, list -/
def tupP : PD → Option PD
  | .list ds => some (.tuple ds)
  | .tuple ds => some (.tuple ds)
  | _ => none
theorem sc_tup : SC (rTupF K) (on1 tupP) := sc_on1 fun x z h S H v al rv Q q => by
  cases rv with
  | lst ha ra => cases h; exact ⟨_, _, rfl, .inl ⟨.inl (.inl (hid_le _ _ ha)), fun l o hl pl => q _ _ (Ex.new hl) (.tup (new_ok al hl) pl (ra.ex (hid_ex (Ex.new hl))))⟩⟩
  | tup ha p ra => cases h; exact ⟨_, _, rfl, .inr ⟨.inl (.inr ⟨_, hid_le _ _ ha⟩), q _ H (Ex.refl H) (.tup ha p ra)⟩⟩
  | _ => cases h
def rListQ (K : PySem.W.Frag) : List V → Hp → VK → Prop := fun xs H Q => ∃ p ys, xs = [.ref p] ∧ (SqL K H p ys ∨ SqT K H p ys) ∧ ∀ l, H l = none → Q (.ref l) (upd H l (.lst ys))
def listP : PD → Option PD
  | .list ds => some (.list ds)
  | .tuple ds => some (.list ds)
  | _ => none
theorem sc_list : SC (rListQ K) (on1 listP) := sc_on1 fun x z h S H v al rv Q q => by
  cases rv with
  | lst ha ra => cases h; exact ⟨_, _, rfl, .inl (.inl (.inl (hid_le _ _ ha))), fun l hl => q _ _ (Ex.new hl) (.lst (new_ok al hl) (ra.ex (hid_ex (Ex.new hl))))⟩
  | tup ha p ra => cases h; exact ⟨_, _, rfl, .inr (.inl (.inr ⟨_, hid_le _ _ ha⟩)), fun l hl => q _ _ (Ex.new hl) (.lst (new_ok al hl) (ra.ex (hid_ex (Ex.new hl))))⟩
  | _ => cases h
/-! ### isinstance -/
def tyN : PD → String
  | .none => "NoneType"
  | .bool _ => "bool"
  | .int _ => "int"
  | .str _ => "str"
  | .list _ => "list"
  | .tuple _ => "tuple"
  | .dict _ => "dict"
def full : PD → Bool
  | .dict (_ :: _) => true
  | _ => false
theorem Rp.ty {H : Hp} {v : V} {d : PD} (r : Rp H v d) (nf : full d = false) : TyX K H v (.type (tyN d)) := by
  cases r with
  | non => exact .base .non
  | bl b => exact .base (.bl b)
  | int i => exact .base (.int i)
  | str x => exact .base (.str x)
  | lst h _ => exact .base (.lst h)
  | tup h _ _ => exact .fTuple h
  | dic h => exact .base (.dK h)
  | scr _ _ => cases nf
inductive Ty | int | bool | str | list | tuple | dict
def Ty.nm : Ty → String
  | .int => "int" | .bool => "bool" | .str => "str" | .list => "list" | .tuple => "tuple" | .dict => "dict"
def isTy : Ty → PD → Bool
  | .int, .int _ => true
  | .int, .bool _ => true
  | .bool, .bool _ => true
  | .str, .str _ => true
  | .list, .list _ => true
  | .tuple, .tuple _ => true
  | .dict, .dict _ => true
  | _, _ => false
theorem kit_c : ∀ t : Ty, kitB "NoneType" t.nm = some (isTy t .none) ∧ kitB "bool" t.nm = some (isTy t (.bool true)) ∧ kitB "int" t.nm = some (isTy t (.int 0)) ∧ kitB "str" t.nm = some (isTy t (.str (Str.ofString ""))) ∧ kitB "list" t.nm = some (isTy t (.list [])) ∧ kitB "tuple" t.nm = some (isTy t (.tuple [])) ∧ kitB "dict" t.nm = some (isTy t (.dict [])) := by
  intro t
  cases t <;> decide +kernel
theorem kit_of : ∀ (t : Ty) (d : PD), kitB (tyN d) t.nm = some (isTy t d) := by
  intro t d
  obtain ⟨h1, h2, h3, h4, h5, h6, h7⟩ := kit_c t
  cases d with
  | none => exact h1
  | bool b => exact h2.trans (by cases t <;> rfl)
  | int i => exact h3.trans (by cases t <;> rfl)
  | str x => exact h4.trans (by cases t <;> rfl)
  | list xs => exact h5.trans (by cases t <;> rfl)
  | tuple xs => exact h6.trans (by cases t <;> rfl)
  | dict xs => exact h7.trans (by cases t <;> rfl)
def xIsi (t : Ty) (a : XE) : XE := fun ρ => (a ρ).bind fun d => if full d = true then none else some (.bool (isTy t d))
theorem se_isi {ta : TE} {a : XE} {n : String} (t : Ty) (hn : t.nm = n) (ha : SE ta a) : SE (tCB (rIsi K) (tCons ta (tCons (tC (.ty n)) tNil))) (xIsi t a) := fun ρ d h S σ H al en Q q => by
  obtain ⟨x, h1, h⟩ := bind_some h
  have nf : full x = false := by
    cases q : full x with
    | true => rw [if_pos q] at h; cases h
    | false => rfl
  rw [if_neg (by rw [nf]; exact Bool.false_ne_true)] at h
  cases h
  subst hn
  exact ha ρ x h1 S σ H al en _ fun v H1 e1 rv => ⟨_, .ty t.nm, _, .type t.nm, isTy t x, rfl, .ty t.nm, (rv.ex hid_le).ty nf, kit_ty (kit_of t x), q _ H1 e1 (.bl _)⟩
/-! ### repr -/
def rRepr (K : PySem.W.Frag) : List V → Hp → VK → Prop := fun vs H Q => ∃ v d, vs = [v] ∧ Dp K H v d ∧ d.showable = true ∧ d.hasDict = false ∧ d.depth ≤ 60 ∧ d.shown.length ≤ sizeLine ∧ Q (.str d.shown) H
theorem cr_repr {X : Cx} (hg : X.A.guards = some []) (hu : X.A.units + 65 < cLine) : CallR X (.builtin "repr") (rRepr X.K) := by
  intro pins s σ H vs us Q I r h
  obtain ⟨v, d, rfl, hd, sh, nd, dp, sz, q⟩ := h
  obtain ⟨u, rfl, ru⟩ : ∃ u, us = [u] ∧ RelV v u := by
    cases r with
    | cons p t => cases t; exact ⟨_, rfl, p⟩
  obtain ⟨as, rd⟩ := Dp.reads I d v u hd ru
  have fin : ∀ h' tk t, (∀ b o, s.heap.get? b = some o → h'.get? b = some o) → ∃ v H', Inv X pins σ H' { s with heap := h', toks := tk } ∧ RelV v (.str d.shown t) ∧ Q v H' := fun h' tk t hk => ⟨.str _, H, I.kept hk, ⟨_, rfl⟩, q⟩
  cases rd with
  | none => exact P.repr_of_none (fin s.heap _ _ fun _ _ e => e)
  | bool b => exact P.repr_of_bool (by cases b <;> exact fin s.heap _ _ fun _ _ e => e)
  | int i t => exact P.repr_of_int (by simpa [PyData.showable] using sh) (fin s.heap _ _ fun _ _ e => e)
  | str x t => exact P.repr_of_str (fin s.heap _ _ fun _ _ e => e) sz
  | list h1 h2 h3 h4 => exact repr_of_reads' (.list h1 h2 h3 h4) sh (fun e => by rw [nd] at e; cases e) hg (by omega) (fun _ _ e => e) (fun h' u tk hk => fin h' tk u hk) sz
  | tuple h1 h2 h3 h4 => exact repr_of_reads' (.tuple h1 h2 h3 h4) sh (fun e => by rw [nd] at e; cases e) hg (by omega) (fun _ _ e => e) (fun h' u tk hk => fin h' tk u hk) sz
  | dict h1 h2 h3 h4 h5 => exact repr_of_reads' (.dict h1 h2 h3 h4 h5) sh (fun e => by rw [nd] at e; cases e) hg (by omega) (fun _ _ e => e) (fun h' u tk hk => fin h' tk u hk) sz
def CanShow (d : PD) : Prop := d.showable = true ∧ d.hasDict = false ∧ d.depth ≤ 60 ∧ d.shown.length ≤ sizeLine
instance {d : PD} : Decidable (CanShow d) := inferInstanceAs (Decidable (_ ∧ _))
def reprP (d : PD) : Option PD := if CanShow d then some (.str d.shown) else none
theorem sc_repr : SC (rRepr K) (on1 reprP) := sc_on1 fun x z h S H v al rv Q q => by
  unfold reprP at h
  by_cases c : CanShow x
  · rw [if_pos c] at h
    cases h
    exact ⟨v, x, rfl, (rv.ex hid_le).dp c.2.1, c.1, c.2.1, c.2.2.1, c.2.2.2, q _ H (Ex.refl H) (.str _)⟩
  · rw [if_neg c] at h; cases h
/-! ### index -/
def idxP (x y : PD) : Option PD := match x, y with
  | .tuple ds, .int m => (unI ds).bind fun ns => if m ∈ ns then some (.int (ns.idxOf m : Nat)) else none
  | .list ds, y => if SeqAt.shaped (.list ds) = true ∧ SeqAt.shaped y = true then match ds.findIdx? fun z => PyData.eqv z y with
    | some j => some (.int (j : Nat))
    | none => none
    else none
  | _, _ => none
def tIdx (K : PySem.W.Frag) (to : TE) (t : TA) : TE := fun σ H Q => tBMF (rIndexF K) to t σ H Q ∨ tBM K "list" (rIndexD K) to t σ H Q
def xIdx (a b : XE) : XE := xOp idxP a b
theorem se_idx {ta tb : TE} {a b : XE} (ha : SE ta a) (hb : SE tb b) : SE (tIdx K ta (tCons tb tNil)) (xIdx a b) := fun ρ d h S σ H al en Q q => by
  obtain ⟨x, h1, h⟩ := bind_some h
  obtain ⟨y, h2, h⟩ := bind_some h
  cases x with
  | tuple ds =>
    cases y with
    | int m =>
      obtain ⟨ns, h3, h4⟩ := bind_some h
      have e := unI_eq h3
      subst e
      by_cases c : m ∈ ns
      · rw [if_pos c] at h4
        cases h4
        refine .inl (ha ρ _ h1 S σ H al en _ fun v H1 e1 rv => ?_)
        generalize ed : PyData.tuple (ns.map PyData.int) = dd at rv
        cases rv with
        | tup hx pl ra =>
          cases ed
          refine ⟨⟨_, _, _, rfl, hid_le _ _ hx, pl⟩, hb ρ _ h2 S σ H1 (al.ex e1) (en.ex (hid_ex e1)) _ fun w H2 e2 rw' => ?_⟩
          cases rw'
          have e := ra.ints
          subst e
          exact ⟨_, ns, m, rfl, rfl, .inl (.inr ⟨_, hid_le _ _ (hid_ex e2 _ _ hx)⟩), c, q _ H2 (e1.trans e2) (.int _)⟩
        | _ => cases ed
      · rw [if_neg c] at h4; cases h4
    | _ => cases h
  | list ds =>
    have h : (if SeqAt.shaped (.list ds) = true ∧ SeqAt.shaped y = true then match ds.findIdx? fun z => PyData.eqv z y with
      | some j => some (PyData.int (j : Nat))
      | none => none
      else none) = some d := by cases y <;> exact h
    by_cases c : SeqAt.shaped (.list ds) = true ∧ SeqAt.shaped y = true
    · rw [if_pos c] at h
      cases hj : ds.findIdx? fun z => PyData.eqv z y with
      | none => rw [hj] at h; cases h
      | some j =>
        rw [hj] at h
        cases h
        obtain ⟨hlt, hy, hn⟩ := List.findIdx?_eq_some_iff_getElem.mp hj
        refine .inr (ha ρ _ h1 S σ H al en _ fun v H1 e1 rv => ?_)
        cases rv with
        | lst hx ra =>
          refine ⟨.inl ⟨rfl, _, .inl (.inl (hid_le _ _ hx))⟩, hb ρ _ h2 S σ H1 (al.ex e1) (en.ex (hid_ex e1)) _ fun w H2 e2 rw' => ?_⟩
          have hx2 := hid_ex (S := S) e2 _ _ hx
          refine ⟨_, w, y, ds, j, ds[j], rfl, rfl, ((Rp.lst hx2 (ra.ex (hid_ex e2))).ex hid_le).dp (nodict c.1), (rw'.ex hid_le).dp (nodict c.2), c.1, c.2, List.getElem?_eq_getElem hlt, hy, fun m z' hm hz => ?_, q _ H2 (e1.trans e2) (.int _)⟩
          obtain ⟨hm2, ez⟩ := List.getElem?_eq_some_iff.mp hz
          have hz2 := hn m hm
          subst ez
          simpa using hz2
    · rw [if_neg c] at h; cases h
  | _ => cases h
end
end Uv

namespace Uv
open PySem PySem.Spec PyProof.Rows L2
open Evl (Ex)
variable [kk : KK]
/-! ### slots that own lists -/
inductive Cel | dat (d : PD) | sub (ds : List PD)
def Cel.pd : Cel → PD
  | .dat d => d
  | .sub ds => .list ds
inductive Sl | un | dat (d : PD) | own (cs : List Cel)
abbrev Env := List Sl
def Sl.vw : Sl → Option PD
  | .un => none
  | .dat d => some d
  | .own cs => some (.list (cs.map Cel.pd))
def Sl.mk : Sl → Option PD
  | .dat d => some d
  | _ => none
def vw (ρ : Env) : VE := ρ.map Sl.vw
def mk (ρ : Env) : VE := ρ.map Sl.mk
abbrev Trs := Nat → List Addr
def SF (F : Hs) (T : Trs) : Hs := fun x => F x ∨ ∃ i, x ∈ T i
def FL (F : Hs) (L : List Addr) : Hs := fun x => F x ∨ x ∈ L
/-- the items of an owned list: data, or lists of data that are owned too (at the addresses) -/
inductive Cels (G H : Hp) : List V → List Cel → List Addr → Prop
  | nil : Cels G H [] [] []
  | dat {v : V} {d : PD} {vs : List V} {cs : List Cel} {B : List Addr} : Rp G v d → Cels G H vs cs B → Cels G H (v :: vs) (.dat d :: cs) B
  | sub {b : Addr} {ws : List V} {ds : List PD} {vs : List V} {cs : List Cel} {B : List Addr} : H b = some (.lst ws) → RpAll G ws ds → Cels G H vs cs B → Cels G H (.ref b :: vs) (.sub ds :: cs) (b :: B)
def Own (G H : Hp) (v : V) (cs : List Cel) (A : List Addr) : Prop := ∃ a vs B, v = .ref a ∧ H a = some (.lst vs) ∧ Cels G H vs cs B ∧ A = a :: B
def SlOk (G H : Hp) (o : Option V) (s : Sl) (A : List Addr) : Prop := match s with
  | .un => A = []
  | .dat d => A = [] ∧ ∃ v, o = some v ∧ Rp G v d
  | .own cs => ∃ v, o = some v ∧ Own G H v cs A
structure StOk (pn : Option V) (F : Hs) (T : Trs) (H : Hp) (σ : L2.St) (ρ : Env) : Prop where
  len : σ.length = ρ.length
  al : Al F H
  off : ∀ i x, x ∈ T i → ¬ F x
  dis : ∀ i j x, x ∈ T i → x ∈ T j → i = j
  nd : ∀ i, (T i).Nodup
  out : ∀ i, ρ.length ≤ i → T i = []
  sl : ∀ i s, ρ[i]? = some s → ∃ o, σ[i]? = some o ∧ SlOk (hid (SF F T) H) H o s (T i)
  pin : ∀ v, pn = some v → σ[0]? = some (some v)
structure Stp (F : Hs) (T : Trs) (H : Hp) (T' : Trs) (H' : Hp) : Prop where
  fr : ∀ x, F x → H' x = H x
  vis : Ex (hid (SF F T) H) (hid (SF F T') H')
section
variable {pn : Option V} {F : Hs} {T T' T'' : Trs} {G G' H H' H'' : Hp} {σ : L2.St} {ρ : Env}
theorem Stp.refl : Stp F T H T H := ⟨fun _ _ => rfl, Ex.refl _⟩
theorem Stp.trans (a : Stp F T H T' H') (b : Stp F T' H' T'' H'') : Stp F T H T'' H'' := ⟨fun x h => (b.fr x h).trans (a.fr x h), a.vis.trans b.vis⟩
theorem Stp.ex (al : Al F H) (e : Ex H H') : Stp F T H T H' := ⟨fun x h => by
  cases q : H x with
  | none => exact absurd q (al x h)
  | some o => exact e x o q, hid_ex e⟩
theorem Cels.mv (e : Ex G G') : ∀ {vs : List V} {cs : List Cel} {B : List Addr}, (∀ x ∈ B, H' x = H x) → Cels G H vs cs B → Cels G' H' vs cs B
  | _, _, _, _, .nil => .nil
  | _, _, _, h, .dat r c => .dat (r.ex e) (Cels.mv e h c)
  | _, _, _, h, .sub hb r c => .sub ((h _ (List.mem_cons_self ..)).trans hb) (r.ex e) (Cels.mv e (fun x hx => h x (List.mem_cons_of_mem _ hx)) c)
theorem Own.mv (e : Ex G G') {v : V} {cs : List Cel} {A : List Addr} (h : ∀ x ∈ A, H' x = H x) (o : Own G H v cs A) : Own G' H' v cs A := by
  obtain ⟨a, vs, B, rfl, ha, c, rfl⟩ := o
  exact ⟨a, vs, B, rfl, (h a (List.mem_cons_self ..)).trans ha, c.mv e fun x hx => h x (List.mem_cons_of_mem _ hx), rfl⟩
theorem SlOk.mv (e : Ex G G') {o : Option V} {s : Sl} {A : List Addr} (h : ∀ x ∈ A, H' x = H x) (q : SlOk G H o s A) : SlOk G' H' o s A := by
  cases s with
  | un => exact q
  | dat d => obtain ⟨z, v, e1, r⟩ := q; exact ⟨z, v, e1, r.ex e⟩
  | own cs => obtain ⟨v, e1, r⟩ := q; exact ⟨v, e1, r.mv e h⟩
theorem Cels.lst : ∀ {vs : List V} {cs : List Cel} {B : List Addr}, Cels G H vs cs B → ∀ x ∈ B, ∃ ws, H x = some (.lst ws)
  | _, _, _, .nil, x, h => nomatch h
  | _, _, _, .dat _ c, x, h => c.lst x h
  | _, _, _, .sub hb _ c, x, h => by
    rcases List.mem_cons.mp h with z | z
    · subst z; exact ⟨_, hb⟩
    · exact c.lst x z
theorem Own.lst {v : V} {cs : List Cel} {A : List Addr} (o : Own G H v cs A) : ∀ x ∈ A, ∃ ws, H x = some (.lst ws) := fun x h => by
  obtain ⟨a, vs, B, rfl, ha, c, rfl⟩ := o
  rcases List.mem_cons.mp h with z | z
  · subst z; exact ⟨_, ha⟩
  · exact c.lst x z
theorem Cels.length : ∀ {vs : List V} {cs : List Cel} {B : List Addr}, Cels G H vs cs B → vs.length = cs.length
  | _, _, _, .nil => rfl
  | _, _, _, .dat _ c => by rw [List.length_cons, List.length_cons, c.length]
  | _, _, _, .sub _ _ c => by rw [List.length_cons, List.length_cons, c.length]
/-- seen as data, where the addresses show -/
theorem Cels.rp (e : Ex G G') (hs : ∀ x ∈ B, G' x = H x) : ∀ {vs : List V} {cs : List Cel}, Cels G H vs cs B → RpAll G' vs (cs.map Cel.pd)
  | _, _, .nil => .nil
  | _, _, .dat r c => .cons (r.ex e) (c.rp e hs)
  | _, _, .sub hb r c => .cons (.lst ((hs _ (List.mem_cons_self ..)).trans hb) (r.ex e)) (c.rp e fun x hx => hs x (List.mem_cons_of_mem _ hx))
theorem Own.rp (e : Ex G G') {v : V} {cs : List Cel} {A : List Addr} (hs : ∀ x ∈ A, G' x = H x) (o : Own G H v cs A) : Rp G' v (.list (cs.map Cel.pd)) := by
  obtain ⟨a, vs, B, rfl, ha, c, rfl⟩ := o
  exact .lst ((hs a (List.mem_cons_self ..)).trans ha) (c.rp e fun x hx => hs x (List.mem_cons_of_mem _ hx))
theorem StOk.lst (st : StOk pn F T H σ ρ) {i : Nat} {x : Addr} (h : x ∈ T i) : ∃ vs, H x = some (.lst vs) := by
  by_cases c : i < ρ.length
  · obtain ⟨o, _, q⟩ := st.sl i _ (List.getElem?_eq_getElem c)
    cases e : ρ[i] with
    | un => rw [e] at q; rw [show T i = [] from q] at h; cases h
    | dat d => rw [e] at q; rw [q.1] at h; cases h
    | own cs => rw [e] at q; obtain ⟨v, _, q⟩ := q; exact q.lst x h
  · rw [st.out i (by omega)] at h; cases h
theorem StOk.als (st : StOk pn F T H σ ρ) : Al (SF F T) H := fun x h z => h.elim (fun h => st.al x h z) fun ⟨i, h⟩ => by
  obtain ⟨vs, e⟩ := st.lst h
  rw [z] at e
  cases e
theorem StOk.mv (st : StOk pn F T H σ ρ) (e : Ex (hid (SF F T) H) (hid (SF F T) H')) (h : ∀ i x, x ∈ T i → H' x = H x) (al : Al F H') : StOk pn F T H' σ ρ :=
  ⟨st.len, al, st.off, st.dis, st.nd, st.out, fun i s hi => let ⟨o, h1, h2⟩ := st.sl i s hi; ⟨o, h1, h2.mv e (h i)⟩, st.pin⟩
theorem StOk.ex (st : StOk pn F T H σ ρ) (e : Ex H H') : StOk pn F T H' σ ρ := st.mv (hid_ex e) (fun i x hx => by
  obtain ⟨vs, q⟩ := st.lst hx
  rw [q, e x _ q]) (st.al.ex e)
theorem StOk.vw (st : StOk pn F T H σ ρ) : En (hid F H) σ (vw ρ) := by
  refine ⟨by rw [st.len]; unfold Uv.vw; rw [List.length_map], fun i d hi => ?_⟩
  unfold Uv.vw at hi
  rw [List.getElem?_map] at hi
  cases q : ρ[i]? with
  | none => rw [q] at hi; cases hi
  | some s =>
    rw [q] at hi
    have hi : s.vw = some d := Option.some.inj hi
    obtain ⟨o, h1, h2⟩ := st.sl i s q
    cases s with
    | un => cases hi
    | dat d' =>
      cases hi
      obtain ⟨_, v, rfl, r⟩ := h2
      exact ⟨v, h1, r.ex (hid_sub fun x h => .inl h)⟩
    | own cs =>
      cases hi
      obtain ⟨v, rfl, r⟩ := h2
      exact ⟨v, h1, r.rp (hid_sub fun x h => .inl h) fun x hx => hid_out (st.off i x hx)⟩
theorem StOk.mkd (st : StOk pn F T H σ ρ) : En (hid (SF F T) H) σ (Uv.mk ρ) := by
  refine ⟨by rw [st.len]; unfold Uv.mk; rw [List.length_map], fun i d hi => ?_⟩
  unfold Uv.mk at hi
  rw [List.getElem?_map] at hi
  cases q : ρ[i]? with
  | none => rw [q] at hi; cases hi
  | some s =>
    rw [q] at hi
    have hi : s.mk = some d := Option.some.inj hi
    obtain ⟨o, h1, h2⟩ := st.sl i s q
    cases s with
    | dat d' =>
      cases hi
      obtain ⟨_, v, rfl, r⟩ := h2
      exact ⟨v, h1, r⟩
    | _ => cases hi
/-! setting a slot -/
def setT (T : Trs) (i : Nat) (A : List Addr) : Trs := fun j => if j = i then A else T j
theorem setT_same {i : Nat} {A : List Addr} : setT T i A i = A := if_pos rfl
theorem setT_ne {i j : Nat} {A : List Addr} (h : j ≠ i) : setT T i A j = T j := if_neg h
theorem SF_setT_nil {i : Nat} : ∀ x, SF F (setT T i []) x → SF F T x := fun x h => h.elim .inl fun ⟨j, hj⟩ => .inr (by
  by_cases c : j = i
  · subst c; rw [setT_same] at hj; cases hj
  · rw [setT_ne c] at hj; exact ⟨j, hj⟩)
theorem StOk.drop (st : StOk pn F T H σ ρ) {i : Nat} {o : Option V} {s : Sl} (hi0 : i ≠ 0) (hs : SlOk (hid (SF F (setT T i [])) H) H o s []) : StOk pn F (setT T i []) H (σ.set i o) (ρ.set i s) ∧ Stp F T H (setT T i []) H := by
  have sub : Ex (hid (SF F T) H) (hid (SF F (setT T i [])) H) := hid_sub SF_setT_nil
  have mem : ∀ j x, x ∈ setT T i [] j → x ∈ T j ∧ j ≠ i := fun j x h => by
    by_cases c : j = i
    · subst c; rw [setT_same] at h; cases h
    · rw [setT_ne c] at h; exact ⟨h, c⟩
  refine ⟨⟨by rw [List.length_set, List.length_set]; exact st.len, st.al, fun j x h => st.off j x (mem j x h).1, fun j k x h h' => st.dis j k x (mem j x h).1 (mem k x h').1, fun j => ?_, fun j hj => ?_, fun j q hq => ?_, fun v hv => ?_⟩, ⟨fun _ _ => rfl, sub⟩⟩
  · by_cases c : j = i
    · subst c; rw [setT_same]; exact List.nodup_nil
    · rw [setT_ne c]; exact st.nd j
  · rw [List.length_set] at hj
    by_cases c : j = i
    · subst c; rw [setT_same]
    · rw [setT_ne c]; exact st.out j hj
  · by_cases c : i = j
    · subst c
      have hl : i < ρ.length := by
        have := (List.getElem?_eq_some_iff.mp hq).1
        simpa using this
      rw [List.getElem?_set_self hl] at hq
      cases hq
      rw [setT_same]
      exact ⟨o, List.getElem?_set_self (by rw [st.len]; exact hl), hs⟩
    · rw [List.getElem?_set_ne c] at hq
      obtain ⟨o', h1, h2⟩ := st.sl j q hq
      rw [List.getElem?_set_ne c, setT_ne (fun z => c z.symm)]
      exact ⟨o', h1, h2.mv sub fun _ _ => rfl⟩
  · rw [List.getElem?_set_ne hi0]
    exact st.pin v hv
theorem StOk.set (st : StOk pn F T H σ ρ) {i : Nat} (hi0 : i ≠ 0) {v : V} {d : PD} (r : Rp (hid (SF F T) H) v d) : StOk pn F (setT T i []) H (σ.set i (some v)) (ρ.set i (.dat d)) ∧ Stp F T H (setT T i []) H :=
  st.drop hi0 ⟨rfl, v, rfl, r.ex (hid_sub SF_setT_nil)⟩
/-- a new list, owned by a slot -/
theorem StOk.own {A : List Addr} (st : StOk pn (FL F A) T H σ ρ) {i : Nat} (hi0 : i ≠ 0) (hi : i < ρ.length) {v : V} {cs : List Cel} (o : Own (hid (SF (FL F A) T) H) H v cs A) (nd : A.Nodup) (off : ∀ x ∈ A, ¬ F x) :
    StOk pn F (setT T i A) H (σ.set i (some v)) (ρ.set i (.own cs)) ∧ Ex (hid (SF (FL F A) T) H) (hid (SF F (setT T i A)) H) := by
  have sub : Ex (hid (SF (FL F A) T) H) (hid (SF F (setT T i A)) H) := hid_sub fun x h => h.elim (fun h => .inl (.inl h)) fun ⟨j, hj⟩ => by
    by_cases c : j = i
    · subst c; rw [setT_same] at hj; exact .inl (.inr hj)
    · rw [setT_ne c] at hj; exact .inr ⟨j, hj⟩
  have mem : ∀ j x, x ∈ setT T i A j → (j = i ∧ x ∈ A) ∨ (j ≠ i ∧ x ∈ T j) := fun j x h => by
    by_cases c : j = i
    · subst c; rw [setT_same] at h; exact .inl ⟨rfl, h⟩
    · rw [setT_ne c] at h; exact .inr ⟨c, h⟩
  refine ⟨⟨by rw [List.length_set, List.length_set]; exact st.len, fun x h => st.al x (.inl h), fun j x h => ?_, fun j k x h h' => ?_, fun j => ?_, fun j hj => ?_, fun j q hq => ?_, fun v hv => ?_⟩, sub⟩
  · rcases mem j x h with ⟨_, h⟩ | ⟨_, h⟩
    · exact off x h
    · exact fun z => st.off j x h (.inl z)
  · rcases mem j x h with ⟨e, h⟩ | ⟨e, h⟩
    · rcases mem k x h' with ⟨e', h'⟩ | ⟨e', h'⟩
      · rw [e, e']
      · exact absurd (.inr h) (st.off k x h')
    · rcases mem k x h' with ⟨e', h'⟩ | ⟨e', h'⟩
      · exact absurd (.inr h') (st.off j x h)
      · exact st.dis j k x h h'
  · by_cases c : j = i
    · subst c; rw [setT_same]; exact nd
    · rw [setT_ne c]; exact st.nd j
  · rw [List.length_set] at hj
    rw [setT_ne (by omega)]
    exact st.out j hj
  · by_cases c : i = j
    · subst c
      rw [List.getElem?_set_self hi] at hq
      cases hq
      rw [setT_same]
      exact ⟨some v, List.getElem?_set_self (by rw [st.len]; exact hi), v, rfl, o.mv sub fun _ _ => rfl⟩
    · rw [List.getElem?_set_ne c] at hq
      obtain ⟨o', h1, h2⟩ := st.sl j q hq
      rw [List.getElem?_set_ne c, setT_ne (fun z => c z.symm)]
      exact ⟨o', h1, h2.mv sub fun _ _ => rfl⟩
  · rw [List.getElem?_set_ne hi0]
    exact st.pin v hv
/-- what was new becomes data -/
theorem StOk.thaw {A : List Addr} (st : StOk pn (FL F A) T H σ ρ) : StOk pn F T H σ ρ ∧ Ex (hid (SF (FL F A) T) H) (hid (SF F T) H) := by
  have sub : Ex (hid (SF (FL F A) T) H) (hid (SF F T) H) := hid_sub fun x h => h.elim (fun h => .inl (.inl h)) .inr
  exact ⟨⟨st.len, fun x h => st.al x (.inl h), fun i x h z => st.off i x h (.inl z), st.dis, st.nd, st.out, fun i s hi => let ⟨o, h1, h2⟩ := st.sl i s hi; ⟨o, h1, h2.mv sub fun _ _ => rfl⟩, st.pin⟩, sub⟩
/-- an owned slot's list is written, the lists within stand -/
theorem StOk.write (st : StOk pn F T H σ ρ) {i : Nat} {cs cs' : List Cel} {a : Addr} {vs' : List V} {B : List Addr} (hi : ρ[i]? = some (.own cs)) (hT : T i = a :: B) (hσ : σ[i]? = some (some (.ref a))) (hc : Cels (hid (SF F T) H) H vs' cs' B) :
    StOk pn F T (upd H a (.lst vs')) σ (ρ.set i (.own cs')) ∧ Stp F T H T (upd H a (.lst vs')) := by
  have ha : a ∈ T i := by rw [hT]; exact List.mem_cons_self ..
  have hab : a ∉ B := by have := st.nd i; rw [hT] at this; exact (List.nodup_cons.mp this).1
  have hS : SF F T a := .inr ⟨i, ha⟩
  have vis : Ex (hid (SF F T) H) (hid (SF F T) (upd H a (.lst vs'))) := fun x o h => by
    obtain ⟨c, h⟩ := hid_some h
    rw [hid_out c, upd_ne (fun z => c (by rw [z]; exact hS))]
    exact h
  have ne : ∀ x, x ≠ a → upd H a (.lst vs') x = H x := fun x h => upd_ne h
  refine ⟨⟨by rw [List.length_set]; exact st.len, fun x h => ?_, st.off, st.dis, st.nd, fun j hj => st.out j (by rw [List.length_set] at hj; exact hj), fun j q hq => ?_, st.pin⟩, ⟨fun x h => ne x fun z => st.off i a ha (by rw [← z]; exact h), vis⟩⟩
  · rw [ne x fun z => st.off i a ha (by rw [← z]; exact h)]
    exact st.al x h
  · by_cases c : i = j
    · subst c
      have hl : i < ρ.length := by
        have := (List.getElem?_eq_some_iff.mp hq).1
        simpa using this
      rw [List.getElem?_set_self hl] at hq
      cases hq
      exact ⟨_, hσ, .ref a, rfl, a, vs', B, rfl, upd_same, hc.mv vis fun x hx => ne x fun z => hab (by rw [← z]; exact hx), hT⟩
    · rw [List.getElem?_set_ne c] at hq
      obtain ⟨o', h1, h2⟩ := st.sl j q hq
      exact ⟨o', h1, h2.mv vis fun x hx => ne x fun z => c (st.dis i j a ha (by rw [← z]; exact hx))⟩
theorem StOk.at_own (st : StOk pn F T H σ ρ) {i : Nat} {cs : List Cel} (hi : ρ[i]? = some (.own cs)) : ∃ a vs B, σ[i]? = some (some (.ref a)) ∧ H a = some (.lst vs) ∧ Cels (hid (SF F T) H) H vs cs B ∧ T i = a :: B := by
  obtain ⟨o, h1, v, rfl, a, vs, B, rfl, h2, h3, h4⟩ := st.sl i _ hi
  exact ⟨a, vs, B, h1, h2, h3, h4⟩
end
/-! ### data without lists -/
mutual
def flat : PD → Bool
  | .none => true
  | .bool _ => true
  | .int _ => true
  | .str _ => true
  | .tuple ds => flats ds
  | .list _ => false
  | .dict _ => false
def flats : List PD → Bool
  | [] => true
  | d :: ds => flat d && flats ds
end
mutual
theorem Rp.flat {G G' : Hp} (e : ∀ x o u, G x = some (.frz o u) → G' x = some (.frz o u)) : ∀ {v : V} {d : PD}, Rp G v d → flat d = true → Rp G' v d
  | _, _, .non, _ => .non
  | _, _, .bl b, _ => .bl b
  | _, _, .int i, _ => .int i
  | _, _, .str x, _ => .str x
  | _, _, .lst h r, f => by simp [Uv.flat] at f
  | _, _, .tup h p r, f => .tup (e _ _ _ h) p (RpAll.flat e r (by simpa [Uv.flat] using f))
  | _, _, .dic h, f => by simp [Uv.flat] at f
  | _, _, .scr h r, f => by simp [Uv.flat] at f
theorem RpAll.flat {G G' : Hp} (e : ∀ x o u, G x = some (.frz o u) → G' x = some (.frz o u)) : ∀ {vs : List V} {ds : List PD}, RpAll G vs ds → flats ds = true → RpAll G' vs ds
  | _, _, .nil, _ => .nil
  | _, _, .cons h r, f => by
    simp only [flats, Bool.and_eq_true] at f
    exact .cons (Rp.flat e h f.1) (RpAll.flat e r f.2)
end
theorem StOk.frz {pn : Option V} {F : Hs} {T : Trs} {H H' : Hp} {σ : L2.St} {ρ : Env} (st : StOk pn F T H σ ρ) (e : Ex H H') : ∀ x o u, hid F H' x = some (.frz o u) → hid (SF F T) H' x = some (.frz o u) := fun x o u h => by
  obtain ⟨c, h⟩ := hid_some h
  rw [hid_out]
  · exact h
  · rintro (z | ⟨i, z⟩)
    · exact c z
    · obtain ⟨vs, q⟩ := st.lst z
      rw [e x _ q] at h
      cases h
end Uv

namespace Uv
open PySem PySem.Spec PyProof.Rows L2
open Evl (Ex)
variable [kk : KK]
/-! ### expressions over a state -/
abbrev XW := Env → Option (PD × Env)
abbrev XWT := Env → Option (Bool × Env)
abbrev XWA := Env → Option (List PD × Env)
abbrev XWO := Env → Option (List Cel × Env)
def SW (te : TE) (w : XW) : Prop := ∀ pn F T H σ ρ d ρ', StOk pn F T H σ ρ → w ρ = some (d, ρ') → ∀ Q : VK, (∀ v T' H', StOk pn F T' H' σ ρ' → Stp F T H T' H' → Rp (hid (SF F T') H') v d → Q v H') → te σ H Q
def SWT (tt : TT) (w : XWT) : Prop := ∀ pn F T H σ ρ b ρ', StOk pn F T H σ ρ → w ρ = some (b, ρ') → ∀ Q : Bool → Hp → Prop, (∀ T' H', StOk pn F T' H' σ ρ' → Stp F T H T' H' → Q b H') → tt σ H Q
def SWA (ta : TA) (w : XWA) : Prop := ∀ pn F T H σ ρ ds ρ', StOk pn F T H σ ρ → w ρ = some (ds, ρ') → ∀ Q : List V → Hp → Prop, (∀ vs T' H', StOk pn F T' H' σ ρ' → Stp F T H T' H' → RpAll (hid (SF F T') H') vs ds → Q vs H') → ta σ H Q
/-- a new list: its addresses A stand in the frame -/
def SWO (te : TE) (w : XWO) : Prop := ∀ pn F T H σ ρ cs ρ', StOk pn F T H σ ρ → w ρ = some (cs, ρ') → ∀ Q : VK, (∀ v A T' H', StOk pn (FL F A) T' H' σ ρ' → A.Nodup → (∀ x ∈ A, ¬ F x) → (∀ x, F x → H' x = H x) → Ex (hid (SF F T) H) (hid (SF (FL F A) T') H') → Own (hid (SF (FL F A) T') H') H' v cs A → Q v H') → te σ H Q
def wM (x : XE) : XW := fun ρ => (x (mk ρ)).bind fun d => some (d, ρ)
def wV (x : XE) : XW := fun ρ => (x (vw ρ)).bind fun d => if flat d = true then some (d, ρ) else none
def wMT (x : XT) : XWT := fun ρ => (x (mk ρ)).bind fun d => some (d, ρ)
def wVT (x : XT) : XWT := fun ρ => (x (vw ρ)).bind fun d => some (d, ρ)
def wMA (x : XA) : XWA := fun ρ => (x (mk ρ)).bind fun d => some (d, ρ)
def wNil : XWA := fun ρ => some ([], ρ)
def wCons (a : XW) (as : XWA) : XWA := fun ρ => (a ρ).bind fun x => (as x.2).bind fun xs => some (x.1 :: xs.1, xs.2)
def wOp (f : PD → PD → Option PD) (a b : XW) : XW := fun ρ => (a ρ).bind fun x => (b x.2).bind fun y => (f x.1 y.1).bind fun z => some (z, y.2)
def wUn (f : PD → Option PD) (a : XW) : XW := fun ρ => (a ρ).bind fun x => (f x.1).bind fun z => some (z, x.2)
def wTup (as : XWA) : XW := fun ρ => (as ρ).bind fun x => if x.1.length ≤ 100000 then some (.tuple x.1, x.2) else none
def wLst (as : XWA) : XW := fun ρ => (as ρ).bind fun x => if x.1.length ≤ 100000 then some (.list x.1, x.2) else none
def wCB (f : List PD → Option PD) (as : XWA) : XW := fun ρ => (as ρ).bind fun x => (f x.1).bind fun z => some (z, x.2)
def wB (a : XW) : XWT := fun ρ => (a ρ).bind fun x => (isB x.1).bind fun b => some (b, x.2)
def wIf (c : XWT) (a b : XW) : XW := fun ρ => (c ρ).bind fun k => if k.1 = true then a k.2 else b k.2
def wTAnd (a b : XWT) : XWT := fun ρ => (a ρ).bind fun c => if c.1 = true then b c.2 else some (false, c.2)
def wTOr (a b : XWT) : XWT := fun ρ => (a ρ).bind fun c => if c.1 = true then some (true, c.2) else b c.2
def wTNot (a : XWT) : XWT := fun ρ => (a ρ).bind fun c => some (!c.1, c.2)
def wAnd (a b : XW) : XW := fun ρ => (wB a ρ).bind fun c => if c.1 = true then b c.2 else some (.bool false, c.2)
def wOr (a b : XW) : XW := fun ρ => (wB a ρ).bind fun c => if c.1 = true then some (.bool true, c.2) else b c.2
def wNot (a : XW) : XW := fun ρ => (wB a ρ).bind fun c => some (.bool (!c.1), c.2)
section
variable {ta tb te : TE} {t u : TT} {ts : TA} {a b w : XW} {p q : XWT} {as : XWA} {r : R2} {f : PD → PD → Option PD} {x : XE}
theorem sw_M (h : SE te x) : SW te (wM x) := fun pn F T H σ ρ d ρ' st e Q q => by
  obtain ⟨z, h1, h2⟩ := bind_some e
  cases h2
  exact h _ _ h1 (SF F T) σ H st.als st.mkd Q fun v H2 e2 rv => q v T H2 (st.ex e2) (Stp.ex st.al e2) rv
theorem sw_V (h : SE te x) : SW te (wV x) := fun pn F T H σ ρ d ρ' st e Q q => by
  obtain ⟨z, h1, h2⟩ := bind_some e
  by_cases c : flat z = true
  · rw [if_pos c] at h2
    cases h2
    exact h _ _ h1 F σ H st.al st.vw Q fun v H2 e2 rv => q v T H2 (st.ex e2) (Stp.ex st.al e2) (rv.flat (st.frz e2) c)
  · rw [if_neg c] at h2; cases h2
theorem swt_M {x : XT} (h : ST t x) : SWT t (wMT x) := fun pn F T H σ ρ d ρ' st e Q q => by
  obtain ⟨z, h1, h2⟩ := bind_some e
  cases h2
  exact h _ _ h1 (SF F T) σ H st.als st.mkd Q fun H2 e2 => q T H2 (st.ex e2) (Stp.ex st.al e2)
theorem swt_V {x : XT} (h : ST t x) : SWT t (wVT x) := fun pn F T H σ ρ d ρ' st e Q q => by
  obtain ⟨z, h1, h2⟩ := bind_some e
  cases h2
  exact h _ _ h1 F σ H st.al st.vw Q fun H2 e2 => q T H2 (st.ex e2) (Stp.ex st.al e2)
theorem swa_M {x : XA} (h : SA ts x) : SWA ts (wMA x) := fun pn F T H σ ρ d ρ' st e Q q => by
  obtain ⟨z, h1, h2⟩ := bind_some e
  cases h2
  exact h _ _ h1 (SF F T) σ H st.als st.mkd Q fun v H2 e2 rv => q v T H2 (st.ex e2) (Stp.ex st.al e2) rv
theorem swa_nil : SWA tNil wNil := fun pn F T H σ ρ d ρ' st e Q q => by cases e; exact q [] T H st Stp.refl .nil
theorem swa_cons (ha : SW ta a) (hs : SWA ts as) : SWA (tCons ta ts) (wCons a as) := fun pn F T H σ ρ d ρ' st e Q q => by
  obtain ⟨⟨x, ρ1⟩, h1, e⟩ := bind_some e
  obtain ⟨⟨xs, ρ2⟩, h2, e⟩ := bind_some e
  cases e
  exact ha pn F T H σ ρ x ρ1 st h1 _ fun v T1 H1 st1 s1 rv => hs pn F T1 H1 σ ρ1 xs ρ2 st1 h2 _ fun vs T2 H2 st2 s2 rs => q (v :: vs) T2 H2 st2 (s1.trans s2) (.cons (rv.ex s2.vis) rs)
theorem sw_op (hr : SO r f) (ha : SW ta a) (hb : SW tb b) : SW (tOp r ta tb) (wOp f a b) := fun pn F T H σ ρ d ρ' st e Q q => by
  obtain ⟨⟨x, ρ1⟩, h1, e⟩ := bind_some e
  obtain ⟨⟨y, ρ2⟩, h2, e⟩ := bind_some e
  obtain ⟨z, h3, e⟩ := bind_some e
  cases e
  exact ha pn F T H σ ρ x ρ1 st h1 _ fun v T1 H1 st1 s1 rv => hb pn F T1 H1 σ ρ1 y ρ2 st1 h2 _ fun w T2 H2 st2 s2 rw' =>
    hr x y d h3 (SF F T2) H2 v w st2.als (rv.ex s2.vis) rw' Q fun z H3 e3 rz => q z T2 H3 (st2.ex e3) ((s1.trans s2).trans (Stp.ex st2.al e3)) rz
theorem sw_un {r : V → Hp → VK → Prop} {f : PD → Option PD} (hr : SU r f) (ha : SW ta a) : SW (tUn r ta) (wUn f a) := fun pn F T H σ ρ d ρ' st e Q q => by
  obtain ⟨⟨x, ρ1⟩, h1, e⟩ := bind_some e
  obtain ⟨z, h3, e⟩ := bind_some e
  cases e
  exact ha pn F T H σ ρ x ρ1 st h1 _ fun v T1 H1 st1 s1 rv => hr x d h3 (SF F T1) H1 v st1.als rv Q fun z H3 e3 rz => q z T1 H3 (st1.ex e3) (s1.trans (Stp.ex st1.al e3)) rz
theorem sw_tup (hs : SWA ts as) : SW (tTupF ts) (wTup as) := fun pn F T H σ ρ d ρ' st e Q q => by
  obtain ⟨⟨xs, ρ1⟩, h1, e⟩ := bind_some e
  by_cases hl : xs.length ≤ 100000
  · rw [if_pos hl] at e
    cases e
    exact hs pn F T H σ ρ xs _ st h1 _ fun vs T1 H1 st1 s1 rv => ⟨by rw [rv.length]; exact Evl.sz_of hl, fun p o hp pl => q _ T1 _ (st1.ex (Ex.new hp)) (s1.trans (Stp.ex st1.al (Ex.new hp))) (.tup (new_ok st1.als hp) pl (rv.ex (hid_ex (Ex.new hp))))⟩
  · rw [if_neg hl] at e; cases e
theorem sw_lst (hs : SWA ts as) : SW (tLst ts) (wLst as) := fun pn F T H σ ρ d ρ' st e Q q => by
  obtain ⟨⟨xs, ρ1⟩, h1, e⟩ := bind_some e
  by_cases hl : xs.length ≤ 100000
  · rw [if_pos hl] at e
    cases e
    exact hs pn F T H σ ρ xs _ st h1 _ fun vs T1 H1 st1 s1 rv => ⟨by rw [rv.length]; exact Evl.sz_of hl, fun p hp => q _ T1 _ (st1.ex (Ex.new hp)) (s1.trans (Stp.ex st1.al (Ex.new hp))) (.lst (new_ok st1.als hp) (rv.ex (hid_ex (Ex.new hp))))⟩
  · rw [if_neg hl] at e; cases e
theorem sw_cb {r : List V → Hp → VK → Prop} {f : List PD → Option PD} (hr : SC r f) (hs : SWA ts as) : SW (tCB r ts) (wCB f as) := fun pn F T H σ ρ d ρ' st e Q q => by
  obtain ⟨⟨xs, ρ1⟩, h1, e⟩ := bind_some e
  obtain ⟨z, h3, e⟩ := bind_some e
  cases e
  exact hs pn F T H σ ρ xs _ st h1 _ fun vs T1 H1 st1 s1 rv => hr xs d h3 (SF F T1) H1 vs st1.als rv Q fun z H3 e3 rz => q z T1 H3 (st1.ex e3) (s1.trans (Stp.ex st1.al e3)) rz
theorem wB_some {ρ ρ' : Env} {c : Bool} (h : wB a ρ = some (c, ρ')) : a ρ = some (.bool c, ρ') := by
  obtain ⟨⟨x, ρ1⟩, h1, e⟩ := bind_some h
  obtain ⟨b, h2, e⟩ := bind_some e
  have z := isB_eq h2
  cases e
  subst z
  exact h1
theorem swt_B (ha : SW ta a) : SWT (tB ta) (wB a) := fun pn F T H σ ρ c ρ' st e Q q =>
  ha pn F T H σ ρ _ ρ' st (wB_some e) _ fun v T1 H1 st1 s1 rv => by cases rv; exact ⟨c, rfl, q T1 H1 st1 s1⟩
theorem swt_test (ha : SW ta a) : SWT (tTest ta) (wB a) := fun pn F T H σ ρ c ρ' st e Q q =>
  ha pn F T H σ ρ _ ρ' st (wB_some e) _ fun v T1 H1 st1 s1 rv => by cases rv; exact ⟨c, rfl, q T1 H1 st1 s1⟩
theorem sw_if (ht : SWT t p) (ha : SW ta a) (hb : SW tb b) : SW (tIf t ta tb) (wIf p a b) := fun pn F T H σ ρ d ρ' st e Q q => by
  obtain ⟨⟨c, ρ1⟩, h1, e⟩ := bind_some e
  refine ht pn F T H σ ρ c ρ1 st h1 _ fun T1 H1 st1 s1 => ?_
  cases c with
  | true => exact ha pn F T1 H1 σ ρ1 d ρ' st1 e Q fun v T2 H2 st2 s2 rv => q v T2 H2 st2 (s1.trans s2) rv
  | false => exact hb pn F T1 H1 σ ρ1 d ρ' st1 e Q fun v T2 H2 st2 s2 rv => q v T2 H2 st2 (s1.trans s2) rv
theorem swt_not (ht : SWT t p) : SWT (tNot t) (wTNot p) := fun pn F T H σ ρ c ρ' st e Q q => by
  obtain ⟨⟨c, ρ1⟩, h1, e⟩ := bind_some e
  cases e
  exact ht pn F T H σ ρ c _ st h1 _ fun T1 H1 st1 s1 => q T1 H1 st1 s1
theorem swt_and (ht : SWT t p) (hu : SWT u q) : SWT (tAnd t u) (wTAnd p q) := fun pn F T H σ ρ c ρ' st e Q k => by
  obtain ⟨⟨c, ρ1⟩, h1, e⟩ := bind_some e
  refine ht pn F T H σ ρ c ρ1 st h1 _ fun T1 H1 st1 s1 => ?_
  cases c with
  | true => exact hu pn F T1 H1 σ ρ1 _ ρ' st1 e Q fun T2 H2 st2 s2 => k T2 H2 st2 (s1.trans s2)
  | false => cases e; exact k T1 H1 st1 s1
theorem swt_or (ht : SWT t p) (hu : SWT u q) : SWT (tOr t u) (wTOr p q) := fun pn F T H σ ρ c ρ' st e Q k => by
  obtain ⟨⟨c, ρ1⟩, h1, e⟩ := bind_some e
  refine ht pn F T H σ ρ c ρ1 st h1 _ fun T1 H1 st1 s1 => ?_
  cases c with
  | true => cases e; exact k T1 H1 st1 s1
  | false => exact hu pn F T1 H1 σ ρ1 _ ρ' st1 e Q fun T2 H2 st2 s2 => k T2 H2 st2 (s1.trans s2)
theorem sw_and (ha : SW ta a) (hb : SW tb b) : SW (tAndV ta tb) (wAnd a b) := fun pn F T H σ ρ d ρ' st e Q q => by
  obtain ⟨⟨c, ρ1⟩, h1, e⟩ := bind_some e
  refine ha pn F T H σ ρ _ ρ1 st (wB_some h1) _ fun v T1 H1 st1 s1 rv => ?_
  cases rv
  refine ⟨c, rfl, ?_⟩
  cases c with
  | true => exact hb pn F T1 H1 σ ρ1 d ρ' st1 e Q fun v T2 H2 st2 s2 rv => q v T2 H2 st2 (s1.trans s2) rv
  | false => cases e; exact q _ T1 H1 st1 s1 (.bl false)
theorem sw_or (ha : SW ta a) (hb : SW tb b) : SW (tOrV ta tb) (wOr a b) := fun pn F T H σ ρ d ρ' st e Q q => by
  obtain ⟨⟨c, ρ1⟩, h1, e⟩ := bind_some e
  refine ha pn F T H σ ρ _ ρ1 st (wB_some h1) _ fun v T1 H1 st1 s1 rv => ?_
  cases rv
  refine ⟨c, rfl, ?_⟩
  cases c with
  | true => cases e; exact q _ T1 H1 st1 s1 (.bl true)
  | false => exact hb pn F T1 H1 σ ρ1 d ρ' st1 e Q fun v T2 H2 st2 s2 rv => q v T2 H2 st2 (s1.trans s2) rv
theorem sw_not (ha : SW ta a) : SW (tNotV ta) (wNot a) := fun pn F T H σ ρ d ρ' st e Q q => by
  obtain ⟨⟨c, ρ1⟩, h1, e⟩ := bind_some e
  cases e
  refine ha pn F T H σ ρ _ _ st (wB_some h1) _ fun v T1 H1 st1 s1 rv => ?_
  cases rv
  exact ⟨c, rfl, q _ T1 H1 st1 s1 (.bl _)⟩
end
/-! ### calls -/
/-- a def that leaves all as it stood -/
def spF (f : List PD → Option PD) : Sp := fun vs H Q _ => ∃ S ds d, Al S H ∧ RpAll (hid S H) vs ds ∧ f ds = some d ∧ ∀ v H2, Ex H H2 → Rp (hid S H2) v d → Q v H2
theorem se_call {f : List PD → Option PD} {ts : TA} {as : XA} (hs : SA ts as) : SE (tCall (spF f) [] E0 ts) (xCB f as) := fun ρ d h S σ H al en Q q => by
  obtain ⟨ds, h1, h⟩ := bind_some h
  exact hs ρ ds h1 S σ H al en _ fun vs H1 e1 rv => ⟨S, ds, d, al.ex e1, by rw [List.append_nil]; exact rv, h, fun v H2 e2 r2 => q v H2 (e1.trans e2) r2⟩
theorem sw_call {f : List PD → Option PD} {ts : TA} {as : XWA} (hs : SWA ts as) : SW (tCall (spF f) [] E0 ts) (wCB f as) := fun pn F T H σ ρ d ρ' st e Q q => by
  obtain ⟨⟨xs, ρ1⟩, h1, e⟩ := bind_some e
  obtain ⟨z, h3, e⟩ := bind_some e
  cases e
  exact hs pn F T H σ ρ xs _ st h1 _ fun vs T1 H1 st1 s1 rv => ⟨SF F T1, xs, d, st1.als, by rw [List.append_nil]; exact rv, h3, fun v H2 e2 r2 => q v T1 H2 (st1.ex e2) (s1.trans (Stp.ex st1.al e2)) r2⟩
/-- a def whose first argument is a list that it may write -/
def spW (g : List Cel → List PD → Option (PD × List Cel)) : Sp := fun vs H Q _ => ∃ (F : Hs) (a : Addr) (B : List Addr) (cs : List Cel) (ws : List V) (ds : List PD) (d : PD) (cs' : List Cel), vs = .ref a :: ws ∧ Al F H ∧ (∀ x ∈ a :: B, ¬ F x) ∧ (a :: B).Nodup ∧
  Own (hid (FL F (a :: B)) H) H (.ref a) cs (a :: B) ∧ RpAll (hid (FL F (a :: B)) H) ws ds ∧ g cs ds = some (d, cs') ∧
  ∀ v B' H', (∀ x, F x → H' x = H x) → Ex (hid (FL F (a :: B)) H) (hid (FL F (a :: B')) H') → (∀ x ∈ a :: B', ¬ F x) → (a :: B').Nodup → Own (hid (FL F (a :: B')) H') H' (.ref a) cs' (a :: B') → Rp (hid (FL F (a :: B')) H') v d → Q v H'
def ownAt (ρ : Env) (i : Nat) : Option (List Cel) := match ρ[i]? with
  | some (.own cs) => some cs
  | _ => none
theorem ownAt_eq {ρ : Env} {i : Nat} {cs : List Cel} (h : ownAt ρ i = some cs) : ρ[i]? = some (.own cs) := by
  unfold ownAt at h
  split at h
  · rename_i e
    cases h
    exact e
  · cases h
def wCallK (i : Nat) (g : List Cel → List PD → Option (PD × List Cel)) (as : XWA) : XW := fun ρ => (ownAt ρ i).bind fun _ => (as ρ).bind fun x => (ownAt x.2 i).bind fun cs => (g cs x.1).bind fun y => some (y.1, x.2.set i (.own y.2))
theorem sw_callK {i : Nat} {g : List Cel → List PD → Option (PD × List Cel)} {ts : TA} {as : XWA} (hs : SWA ts as) : SW (tCall (spW g) [] E0 (tCons (tVar i) ts)) (wCallK i g as) := fun pn F T H σ ρ d ρ' st e Q q => by
  obtain ⟨cs0, h0, e⟩ := bind_some e
  obtain ⟨⟨xs, ρ1⟩, h1, e⟩ := bind_some e
  obtain ⟨cs, hi, e⟩ := bind_some e
  obtain ⟨⟨z, cs'⟩, h3, e⟩ := bind_some e
  have hi : ρ1[i]? = some (.own cs) := ownAt_eq hi
  have e : some (z, ρ1.set i (.own cs')) = some (d, ρ') := e
  obtain ⟨rfl, rfl⟩ := Prod.mk.inj (Option.some.inj e)
  -- the slot holds the same address all along
  have key : ∀ (vs : List V) (T1 : Trs) (H1 : Hp), StOk pn F T1 H1 σ ρ1 → Stp F T H T1 H1 → RpAll (hid (SF F T1) H1) vs xs → ∀ a : Addr, σ[i]? = some (some (.ref a)) → spW g (.ref a :: vs) H1 Q E0 := by
    intro vs T1 H1 st1 s1 rv a ha
    obtain ⟨a', us, B, ha', hl, hc, hT⟩ := st1.at_own hi
    have ea : a' = a := by rw [ha'] at ha; cases ha; rfl
    subst ea
    obtain ⟨F1, hF1⟩ : ∃ F1 : Hs, F1 = fun x => F x ∨ ∃ j, j ≠ i ∧ x ∈ T1 j := ⟨_, rfl⟩
    have eqv : ∀ x, FL F1 (a' :: B) x ↔ SF F T1 x := fun x => by
      rw [hF1]
      constructor
      · rintro ((h | ⟨j, _, h⟩) | h)
        · exact .inl h
        · exact .inr ⟨j, h⟩
        · exact .inr ⟨i, by rw [hT]; exact h⟩
      · rintro (h | ⟨j, h⟩)
        · exact .inl (.inl h)
        · by_cases c : j = i
          · subst c; rw [hT] at h; exact .inr h
          · exact .inl (.inr ⟨j, c, h⟩)
    have eh : hid (FL F1 (a' :: B)) H1 = hid (SF F T1) H1 := hid_eq eqv
    refine ⟨F1, a', B, cs, vs, xs, z, cs', rfl, ?_, ?_, by rw [← hT]; exact st1.nd i, ⟨a', us, B, rfl, hl, by rw [eh]; exact hc, rfl⟩, by rw [eh]; exact rv, h3, fun v B' H' fr vis off nd ow rv' => ?_⟩
    · intro x hx
      rw [hF1] at hx
      exact st1.als x (hx.elim .inl fun ⟨j, _, h⟩ => .inr ⟨j, h⟩)
    · intro x hx hx2
      rw [hF1] at hx2
      have hx3 : x ∈ T1 i := by rw [hT]; exact hx
      rcases hx2 with h | ⟨j, c, h⟩
      · exact st1.off i x hx3 h
      · exact c (st1.dis j i x h hx3)
    · have eqv' : ∀ x, FL F1 (a' :: B') x ↔ SF F (setT T1 i (a' :: B')) x := fun x => by
        rw [hF1]
        constructor
        · rintro ((h | ⟨j, c, h⟩) | h)
          · exact .inl h
          · exact .inr ⟨j, by rw [setT_ne c]; exact h⟩
          · exact .inr ⟨i, by rw [setT_same]; exact h⟩
        · rintro (h | ⟨j, h⟩)
          · exact .inl (.inl h)
          · by_cases c : j = i
            · subst c; rw [setT_same] at h; exact .inr h
            · rw [setT_ne c] at h; exact .inl (.inr ⟨j, c, h⟩)
      have eh' : hid (FL F1 (a' :: B')) H' = hid (SF F (setT T1 i (a' :: B'))) H' := hid_eq eqv'
      rw [eh, eh'] at vis
      rw [eh'] at ow rv'
      have il : i < ρ1.length := (List.getElem?_eq_some_iff.mp hi).1
      refine q v (setT T1 i (a' :: B')) H' ⟨by rw [List.length_set]; exact st1.len, fun x hx => ?_, fun j x h => ?_, fun j k x h h' => ?_, fun j => ?_, fun j hj => ?_, fun j s hs => ?_, st1.pin⟩ (s1.trans ⟨fun x hx => fr x (by rw [hF1]; exact .inl hx), vis⟩) rv'
      · rw [fr x (by rw [hF1]; exact .inl hx)]
        exact st1.al x hx
      · by_cases c : j = i
        · subst c
          rw [setT_same] at h
          exact fun z => off x h (by rw [hF1]; exact .inl z)
        · rw [setT_ne c] at h
          exact st1.off j x h
      · by_cases c : j = i
        · subst c
          rw [setT_same] at h
          by_cases c2 : k = j
          · exact c2.symm
          · rw [setT_ne c2] at h'
            exact absurd (show F1 x by rw [hF1]; exact .inr ⟨k, c2, h'⟩) (off x h)
        · rw [setT_ne c] at h
          by_cases c2 : k = i
          · subst c2
            rw [setT_same] at h'
            exact absurd (show F1 x by rw [hF1]; exact .inr ⟨j, c, h⟩) (off x h')
          · rw [setT_ne c2] at h'
            exact st1.dis j k x h h'
      · by_cases c : j = i
        · subst c; rw [setT_same]; exact nd
        · rw [setT_ne c]; exact st1.nd j
      · rw [List.length_set] at hj
        rw [setT_ne (by omega)]
        exact st1.out j hj
      · by_cases c : i = j
        · subst c
          rw [List.getElem?_set_self il] at hs
          cases hs
          rw [setT_same]
          exact ⟨_, ha', _, rfl, ow⟩
        · rw [List.getElem?_set_ne c] at hs
          obtain ⟨o, h1, h2⟩ := st1.sl j s hs
          rw [setT_ne (fun z => c z.symm)]
          exact ⟨o, h1, h2.mv vis fun x hx => fr x (by rw [hF1]; exact .inr ⟨j, fun z => c z.symm, hx⟩)⟩
  obtain ⟨a, _, _, ha, _⟩ := st.at_own (ownAt_eq h0)
  refine ⟨.ref a, ha, hs pn F T H σ ρ xs ρ1 st h1 _ fun vs T1 H1 st1 s1 rv => ?_⟩
  show spW g (V.ref a :: vs ++ []) H1 Q E0
  rw [List.append_nil]
  exact key vs T1 H1 st1 s1 rv a ha
end Uv

namespace Uv
open PySem PySem.Spec PyProof.Rows L2
open Evl (Ex)
variable [kk : KK]
/-! ### what is walked -/
def Loose (H : Hp) (v : V) (x : PD) : Prop := ∃ a xs ds, v = .ref a ∧ H a = some (.tup xs) ∧ RpAll H xs ds ∧ x = .tuple ds
def Rk (b : Bool) (H : Hp) (v : V) (x : PD) : Prop := Rp H v x ∨ (b = true ∧ Loose H v x)
def Wk (b : Bool) (S : Hs) (J : It) (xs : List PD) (H : Hp) : Prop := ∀ S' H2, Ex (hid S H) (hid S' H2) → Al S' H2 → J.stop xs.length H2 ∧ ∀ i x, xs[i]? = some x → J.go i H2 ∧ ∀ v H3, J.yld i H2 v H3 → Ex H2 H3 ∧ Rk b (hid S' H3) v x
def pairsD (xs : List PD) : List PD := xs.zipIdx.map fun p => .tuple [.int (p.2 : Nat), p.1]
def zipD (xs ys : List PD) : List PD := List.zipWith (fun x y => .tuple [x, y]) xs ys
section
variable {S : Hs} {H : Hp}
theorem wk_tup {a : Addr} {o : Obj} {vs : List V} {xs : List PD} (ha : hid S H a = some (fz o vs)) (ra : RpAll (hid S H) vs xs) : Wk false S (Itt K a) xs H := fun S' H2 e2 al2 => by
  have sq : SqT K H2 a vs := .inl (.inr ⟨_, hid_le _ _ (e2 _ _ ha)⟩)
  have ra2 := ra.ex e2
  refine ⟨⟨_, sq, Nat.le_of_eq ra2.length⟩, fun i x hx => ?_⟩
  obtain ⟨v, hv, rv⟩ := ra2.get hx
  refine ⟨⟨_, v, sq, hv⟩, fun w H3 y => ?_⟩
  obtain ⟨y1, y2⟩ := y
  have e := y2 _ sq
  rw [hv] at e
  cases e
  subst y1
  exact ⟨Ex.refl _, .inl rv⟩
theorem wk_lst {a : Addr} {vs : List V} {xs : List PD} (ha : hid S H a = some (.lst vs)) (ra : RpAll (hid S H) vs xs) : Wk false S (Itl K a) xs H := fun S' H2 e2 al2 => by
  have sq : SqL K H2 a vs := .inl (.inl (hid_le _ _ (e2 _ _ ha)))
  have ra2 := ra.ex e2
  refine ⟨⟨_, sq, Nat.le_of_eq ra2.length⟩, fun i x hx => ?_⟩
  obtain ⟨v, hv, rv⟩ := ra2.get hx
  refine ⟨⟨_, v, sq, hv⟩, fun w H3 y => ?_⟩
  obtain ⟨y1, y2⟩ := y
  have e := y2 _ sq
  rw [hv] at e
  cases e
  subst y1
  exact ⟨Ex.refl _, .inl rv⟩
theorem wk_scr {a : Addr} {vs : List V} {xs : List PD} (ha : SqL K (hid S H) a vs) (ra : RpAll (hid S H) vs xs) : Wk false S (Itl K a) xs H := fun S' H2 e2 al2 => by
  have sq : SqL K H2 a vs := sqx hid_le (sqx e2 ha)
  have ra2 := ra.ex e2
  refine ⟨⟨_, sq, Nat.le_of_eq ra2.length⟩, fun i x hx => ?_⟩
  obtain ⟨v, hv, rv⟩ := ra2.get hx
  refine ⟨⟨_, v, sq, hv⟩, fun w H3 y => ?_⟩
  obtain ⟨y1, y2⟩ := y
  have e := y2 _ sq
  rw [hv] at e
  cases e
  subst y1
  exact ⟨Ex.refl _, .inl rv⟩
theorem wk_rng {lo : Int} {n : Nat} : Wk false S (Itr lo n) ((List.range n).map fun k => .int (lo + (k : Nat))) H := fun S' H2 e2 al2 => by
  refine ⟨by show n ≤ _; simp, fun i x hx => ?_⟩
  rw [List.getElem?_map] at hx
  cases qq : (List.range n)[i]? with
  | none => rw [qq] at hx; cases hx
  | some k =>
    rw [qq] at hx
    obtain ⟨hi, ek⟩ := List.getElem?_eq_some_iff.mp qq
    have ek2 : i = k := by simpa using ek
    subst ek2
    cases hx
    refine ⟨by show i < n; simpa using hi, fun v H3 y => ?_⟩
    obtain ⟨y1, y2⟩ := y
    subst y1 y2
    exact ⟨Ex.refl _, .inl (.int _)⟩
theorem pairs_get {xs : List PD} {i : Nat} {x : PD} (hx : (pairsD xs)[i]? = some x) : ∃ y, xs[i]? = some y ∧ x = .tuple [.int (i : Nat), y] := by
  unfold pairsD at hx
  rw [List.getElem?_map, List.getElem?_zipIdx] at hx
  cases q : xs[i]? with
  | none => rw [q] at hx; simp at hx
  | some y =>
    rw [q] at hx
    refine ⟨y, rfl, ?_⟩
    simp at hx
    exact hx.symm
theorem loose2 {S' : Hs} {H2 : Hp} {T : Addr} {u v : V} {x y : PD} (al : Al S' H2) (hT : H2 T = none) (ru : Rp (hid S' H2) u x) (rv : Rp (hid S' H2) v y) : Ex H2 (upd H2 T (.tup [u, v])) ∧ Rk true (hid S' (upd H2 T (.tup [u, v]))) (.ref T) (.tuple [x, y]) :=
  ⟨Ex.new hT, .inr ⟨rfl, T, _, _, rfl, new_ok al hT, .cons (ru.ex (hid_ex (Ex.new hT))) (.cons (rv.ex (hid_ex (Ex.new hT))) .nil), rfl⟩⟩
theorem wk_enumT {a : Addr} {o : Obj} {vs : List V} {xs : List PD} (ha : hid S H a = some (fz o vs)) (ra : RpAll (hid S H) vs xs) : Wk true S (Un.IteT K a) (pairsD xs) H := fun S' H2 e2 al2 => by
  have sq : SqT K H2 a vs := .inl (.inr ⟨_, hid_le _ _ (e2 _ _ ha)⟩)
  have ra2 := ra.ex e2
  refine ⟨⟨_, sq, by rw [ra2.length]; simp [pairsD]⟩, fun i x hx => ?_⟩
  obtain ⟨y, hy, rfl⟩ := pairs_get hx
  obtain ⟨v, hv, rv⟩ := ra2.get hy
  refine ⟨⟨_, v, sq, hv⟩, fun w H3 yl => ?_⟩
  obtain ⟨T, z, rfl, e2, rfl, e4⟩ := yl
  have ez := e4 _ sq
  rw [hv] at ez
  cases ez
  exact loose2 al2 e2 (.int _) rv
theorem wk_enumL {a : Addr} {vs : List V} {xs : List PD} (ha : hid S H a = some (.lst vs)) (ra : RpAll (hid S H) vs xs) : Wk true S (Ite K a) (pairsD xs) H := fun S' H2 e2 al2 => by
  have sq : SqL K H2 a vs := .inl (.inl (hid_le _ _ (e2 _ _ ha)))
  have ra2 := ra.ex e2
  refine ⟨⟨_, sq, by rw [ra2.length]; simp [pairsD]⟩, fun i x hx => ?_⟩
  obtain ⟨y, hy, rfl⟩ := pairs_get hx
  obtain ⟨v, hv, rv⟩ := ra2.get hy
  refine ⟨⟨_, v, sq, hv⟩, fun w H3 yl => ?_⟩
  obtain ⟨T, z, rfl, e2, rfl, e4⟩ := yl
  have ez := e4 _ sq
  rw [hv] at ez
  cases ez
  exact loose2 al2 e2 (.int _) rv
theorem zip_get {xs ys : List PD} {i : Nat} {x : PD} (hx : (zipD xs ys)[i]? = some x) : ∃ y z, xs[i]? = some y ∧ ys[i]? = some z ∧ x = .tuple [y, z] := by
  unfold zipD at hx
  rw [List.getElem?_zipWith] at hx
  cases q1 : xs[i]? with
  | none => rw [q1] at hx; simp at hx
  | some y =>
    cases q2 : ys[i]? with
    | none => rw [q1, q2] at hx; simp at hx
    | some z =>
      rw [q1, q2] at hx
      simp at hx
      exact ⟨y, z, rfl, rfl, hx.symm⟩
theorem wk_zipT {a b : Addr} {o o' : Obj} {vs us : List V} {xs ys : List PD} (ha : hid S H a = some (fz o vs)) (ra : RpAll (hid S H) vs xs) (hb : hid S H b = some (fz o' us)) (rb : RpAll (hid S H) us ys) : Wk true S (RZ.ItzT K a b) (zipD xs ys) H := fun S' H2 e2 al2 => by
  have sq : SqT K H2 a vs := .inl (.inr ⟨_, hid_le _ _ (e2 _ _ ha)⟩)
  have sq2 : SqT K H2 b us := .inl (.inr ⟨_, hid_le _ _ (e2 _ _ hb)⟩)
  have ra2 := ra.ex e2
  have rb2 := rb.ex e2
  refine ⟨⟨_, _, sq, sq2, by rw [ra2.length, rb2.length]; unfold zipD; rw [List.length_zipWith]; omega⟩, fun i x hx => ?_⟩
  obtain ⟨y, z, hy, hz, rfl⟩ := zip_get hx
  obtain ⟨v, hv, rv⟩ := ra2.get hy
  obtain ⟨u, hu, ru⟩ := rb2.get hz
  refine ⟨⟨_, _, v, u, sq, sq2, hv, hu⟩, fun w H3 yl => ?_⟩
  obtain ⟨T, z1, z2, rfl, e2, rfl, e4, e5⟩ := yl
  have ez := e4 _ sq
  rw [hv] at ez
  cases ez
  have ez2 := e5 _ sq2
  rw [hu] at ez2
  cases ez2
  exact loose2 al2 e2 rv ru
theorem wk_zipL {a b : Addr} {vs us : List V} {xs ys : List PD} (ha : hid S H a = some (.lst vs)) (ra : RpAll (hid S H) vs xs) (hb : hid S H b = some (.lst us)) (rb : RpAll (hid S H) us ys) : Wk true S (Itz K a b) (zipD xs ys) H := fun S' H2 e2 al2 => by
  have sq : SqL K H2 a vs := .inl (.inl (hid_le _ _ (e2 _ _ ha)))
  have sq2 : SqL K H2 b us := .inl (.inl (hid_le _ _ (e2 _ _ hb)))
  have ra2 := ra.ex e2
  have rb2 := rb.ex e2
  refine ⟨⟨_, _, sq, sq2, by rw [ra2.length, rb2.length]; unfold zipD; rw [List.length_zipWith]; omega⟩, fun i x hx => ?_⟩
  obtain ⟨y, z, hy, hz, rfl⟩ := zip_get hx
  obtain ⟨v, hv, rv⟩ := ra2.get hy
  obtain ⟨u, hu, ru⟩ := rb2.get hz
  refine ⟨⟨_, _, v, u, sq, sq2, hv, hu⟩, fun w H3 yl => ?_⟩
  obtain ⟨T, z1, z2, rfl, e2, rfl, e4, e5⟩ := yl
  have ez := e4 _ sq
  rw [hv] at ez
  cases ez
  have ez2 := e5 _ sq2
  rw [hu] at ez2
  cases ez2
  exact loose2 al2 e2 rv ru
end
/-! ### sources, from an expression or from arguments -/
def iSeq (K : PySem.W.Frag) (te : TE) : TI := fun σ H R => iList K te σ H R ∨ iTup K te σ H R
def iEnumU (K : PySem.W.Frag) (ta : TA) : TI := fun σ H R => iEnum K ta σ H R ∨ Un.iEnumT K ta σ H R
def seqP : PD → Option (List PD)
  | .list ds => some ds
  | .tuple ds => some ds
  | .dict [(.none, .list ds)] => some ds
  | _ => none
def rngP : List PD → Option (List PD)
  | [.int n] => if -(2 ^ 62) ≤ n ∧ n < 2 ^ 62 then some ((List.range n.toNat).map fun k => .int (0 + (k : Nat))) else none
  | _ => none
def rng2P : List PD → Option (List PD)
  | [.int i, .int j] => if -(2 ^ 62) ≤ i ∧ i < 2 ^ 62 ∧ -(2 ^ 62) ≤ j ∧ j < 2 ^ 62 then some ((List.range (j - i).toNat).map fun k => .int (i + (k : Nat))) else none
  | _ => none
def enumP : List PD → Option (List PD)
  | [.list ds] => some (pairsD ds)
  | [.tuple ds] => some (pairsD ds)
  | _ => none
def zipP : List PD → Option (List PD)
  | [.list xs, .list ys] => some (zipD xs ys)
  | [.tuple xs, .tuple ys] => some (zipD xs ys)
  | _ => none
abbrev XI := VE → Option (List PD)
def Es (b : Bool) (wi : TI) (ρ : VE) (xs : List PD) : Prop := ∀ S σ H, Al S H → En (hid S H) σ ρ → ∀ R : It → Hp → Prop, (∀ J H1, Ex H H1 → Wk b S J xs H1 → R J H1) → wi σ H R
def SI (b : Bool) (wi : TI) (x : XI) : Prop := ∀ ρ xs, x ρ = some xs → Es b wi ρ xs
abbrev XWI := Env → Option (List PD × Env)
def SWI (b : Bool) (wi : TI) (w : XWI) : Prop := ∀ pn F T H σ ρ xs ρ', StOk pn F T H σ ρ → w ρ = some (xs, ρ') → ∀ R : It → Hp → Prop, (∀ J T' H', StOk pn F T' H' σ ρ' → Stp F T H T' H' → Wk b (SF F T') J xs H' → R J H') → wi σ H R
def xiE (a : XE) : XI := fun ρ => (a ρ).bind seqP
def xiA (f : List PD → Option (List PD)) (as : XA) : XI := fun ρ => (as ρ).bind f
def wiE (a : XW) : XWI := fun ρ => (a ρ).bind fun x => (seqP x.1).bind fun xs => some (xs, x.2)
def wiA (f : List PD → Option (List PD)) (as : XWA) : XWI := fun ρ => (as ρ).bind fun x => (f x.1).bind fun xs => some (xs, x.2)
def wiM (x : XI) : XWI := fun ρ => (x (mk ρ)).bind fun xs => some (xs, ρ)
section
variable {te : TE} {ts : TA}
/-- the arguments' readings at work -/
def Ai (b : Bool) (wi : TA → TI) (f : List PD → Option (List PD)) : Prop := ∀ (ts : TA) (S : Hs) (σ : L2.St) (H : Hp) (R : It → Hp → Prop) (ds xs : List PD), f ds = some xs →
  (∀ Q : List V → Hp → Prop, (∀ vs H1, Al S H1 → RpAll (hid S H1) vs ds → (∀ J, Wk b S J xs H1 → R J H1) → Q vs H1) → ts σ H Q) → wi ts σ H R
theorem core_rng {S : Hs} {vs : List V} {H1 : Hp} {ds xs : List PD} (h : rngP ds = some xs) (rv : RpAll (hid S H1) vs ds) : ∃ j : Int, vs = [.int j] ∧ -(2 ^ 62) ≤ j ∧ j < 2 ^ 62 ∧ Wk false S (Itr 0 j.toNat) xs H1 := by
  unfold rngP at h
  split at h
  · rename_i n
    by_cases c : -(2 ^ 62) ≤ n ∧ n < 2 ^ 62
    · rw [if_pos c] at h
      cases h
      cases rv with
      | cons h1 t =>
        cases t
        cases h1
        exact ⟨n, rfl, c.1, c.2, wk_rng⟩
    · rw [if_neg c] at h; cases h
  · cases h
theorem core_rng2 {S : Hs} {vs : List V} {H1 : Hp} {ds xs : List PD} (h : rng2P ds = some xs) (rv : RpAll (hid S H1) vs ds) : ∃ i j : Int, vs = [.int i, .int j] ∧ (-(2 ^ 62) ≤ i ∧ i < 2 ^ 62 ∧ -(2 ^ 62) ≤ j ∧ j < 2 ^ 62) ∧ Wk false S (Itr i (j - i).toNat) xs H1 := by
  unfold rng2P at h
  split at h
  · rename_i n m
    by_cases c : -(2 ^ 62) ≤ n ∧ n < 2 ^ 62 ∧ -(2 ^ 62) ≤ m ∧ m < 2 ^ 62
    · rw [if_pos c] at h
      cases h
      cases rv with
      | cons h1 t =>
        cases t with
        | cons h2 t =>
          cases t
          cases h1; cases h2
          exact ⟨n, m, rfl, c, wk_rng⟩
    · rw [if_neg c] at h; cases h
  · cases h
theorem core_enum {S : Hs} {vs : List V} {H1 : Hp} {ds xs : List PD} (h : enumP ds = some xs) (rv : RpAll (hid S H1) vs ds) : (∃ a us, vs = [.ref a] ∧ SqL K H1 a us ∧ Wk true S (Ite K a) xs H1) ∨ ∃ a us, vs = [.ref a] ∧ SqT K H1 a us ∧ Wk true S (Un.IteT K a) xs H1 := by
  unfold enumP at h
  split at h
  · cases h
    cases rv with
    | cons h1 t =>
      cases t
      cases h1 with
      | lst ha ra => exact .inl ⟨_, _, rfl, .inl (.inl (hid_le _ _ ha)), wk_enumL ha ra⟩
  · cases h
    cases rv with
    | cons h1 t =>
      cases t
      cases h1 with
      | tup ha _ ra => exact .inr ⟨_, _, rfl, .inl (.inr ⟨_, hid_le _ _ ha⟩), wk_enumT ha ra⟩
  · cases h
theorem core_zip {S : Hs} {vs : List V} {H1 : Hp} {ds xs : List PD} {R : It → Hp → Prop} (h : zipP ds = some xs) (rv : RpAll (hid S H1) vs ds) (q : ∀ J, Wk true S J xs H1 → R J H1) : ∃ a b us ws, vs = [.ref a, .ref b] ∧ ((SqL K H1 a us ∧ SqL K H1 b ws ∧ R (Itz K a b) H1) ∨ (SqT K H1 a us ∧ SqT K H1 b ws ∧ R (RZ.ItzT K a b) H1)) := by
  unfold zipP at h
  split at h
  · cases h
    cases rv with
    | cons h1 t =>
      cases t with
      | cons h2 t =>
        cases t
        cases h1 with
        | lst ha ra =>
          cases h2 with
          | lst hb rb => exact ⟨_, _, _, _, rfl, .inl ⟨.inl (.inl (hid_le _ _ ha)), .inl (.inl (hid_le _ _ hb)), q _ (wk_zipL ha ra hb rb)⟩⟩
  · cases h
    cases rv with
    | cons h1 t =>
      cases t with
      | cons h2 t =>
        cases t
        cases h1 with
        | tup ha _ ra =>
          cases h2 with
          | tup hb _ rb => exact ⟨_, _, _, _, rfl, .inr ⟨.inl (.inr ⟨_, hid_le _ _ ha⟩), .inl (.inr ⟨_, hid_le _ _ hb⟩), q _ (wk_zipT ha ra hb rb)⟩⟩
  · cases h
theorem si_seq {a : XE} (ha : SE te a) : SI false (iSeq K te) (xiE a) := fun ρ xs h S σ H al en R q => by
  obtain ⟨d, h1, h⟩ := bind_some h
  cases d with
  | list ds =>
    cases h
    refine .inl (ha ρ _ h1 S σ H al en _ fun v H1 e1 rv => ?_)
    cases rv with
    | lst hx ra => exact ⟨_, rfl, ⟨_, .inl (.inl (hid_le _ _ hx))⟩, q _ H1 e1 (wk_lst hx ra)⟩
  | tuple ds =>
    cases h
    refine .inr (ha ρ _ h1 S σ H al en _ fun v H1 e1 rv => ?_)
    cases rv with
    | tup hx _ ra => exact ⟨_, rfl, ⟨_, .inl (.inr ⟨_, hid_le _ _ hx⟩)⟩, q _ H1 e1 (wk_tup hx ra)⟩
  | dict kvs =>
    refine .inl (ha ρ _ h1 S σ H al en _ fun v H1 e1 rv => ?_)
    cases rv with
    | dic _ => cases h
    | scr hs ra => cases h; exact ⟨_, rfl, ⟨_, sqx hid_le hs⟩, q _ H1 e1 (wk_scr hs ra)⟩
  | _ => cases h
theorem si_rng {as : XA} (hs : SA ts as) : SI false (iRng1 ts) (xiA rngP as) := fun ρ xs h S σ H al en R q => by
  obtain ⟨ds, h1, h⟩ := bind_some h
  refine hs ρ ds h1 S σ H al en _ fun vs H1 e1 rv => ?_
  obtain ⟨j, h2, h3, h4, w⟩ := core_rng h rv
  exact ⟨j, h2, h3, h4, q _ H1 e1 w⟩
theorem si_rng2 {as : XA} (hs : SA ts as) : SI false (iRng2 ts) (xiA rng2P as) := fun ρ xs h S σ H al en R q => by
  obtain ⟨ds, h1, h⟩ := bind_some h
  refine hs ρ ds h1 S σ H al en _ fun vs H1 e1 rv => ?_
  obtain ⟨i, j, h2, h3, w⟩ := core_rng2 h rv
  exact ⟨i, j, h2, h3, q _ H1 e1 w⟩
theorem enum_l {ds xs : List PD} (h : enumP ds = some xs) : (∃ l, ds = [.list l]) ∨ ∃ l, ds = [.tuple l] := by
  unfold enumP at h
  split at h
  · exact .inl ⟨_, rfl⟩
  · exact .inr ⟨_, rfl⟩
  · cases h
theorem si_enum {as : XA} (hs : SA ts as) : SI true (iEnumU K ts) (xiA enumP as) := fun ρ xs h S σ H al en R q => by
  obtain ⟨ds, h1, h⟩ := bind_some h
  rcases enum_l h with ⟨l, rfl⟩ | ⟨l, rfl⟩
  · refine .inl (hs ρ _ h1 S σ H al en _ fun vs H1 e1 rv => ?_)
    cases h
    cases rv with
    | cons g1 t =>
      cases t
      cases g1 with
      | lst ha ra => exact ⟨_, _, rfl, .inl (.inl (hid_le _ _ ha)), q _ H1 e1 (wk_enumL ha ra)⟩
  · refine .inr (hs ρ _ h1 S σ H al en _ fun vs H1 e1 rv => ?_)
    cases h
    cases rv with
    | cons g1 t =>
      cases t
      cases g1 with
      | tup ha _ ra => exact ⟨_, _, rfl, .inl (.inr ⟨_, hid_le _ _ ha⟩), q _ H1 e1 (wk_enumT ha ra)⟩
theorem si_zip {as : XA} (hs : SA ts as) : SI true (RZ.iZipA K ts) (xiA zipP as) := fun ρ xs h S σ H al en R q => by
  obtain ⟨ds, h1, h⟩ := bind_some h
  exact hs ρ ds h1 S σ H al en _ fun vs H1 e1 rv => core_zip h rv fun J w => q J H1 e1 w
theorem swi_seq {a : XW} (ha : SW te a) : SWI false (iSeq K te) (wiE a) := fun pn F T H σ ρ xs ρ' st h R q => by
  obtain ⟨⟨d, ρ1⟩, h1, h⟩ := bind_some h
  obtain ⟨ys, h2, h⟩ := bind_some h
  cases h
  cases d with
  | list ds =>
    cases h2
    refine .inl (ha pn F T H σ ρ _ _ st h1 _ fun v T1 H1 st1 s1 rv => ?_)
    cases rv with
    | lst hx ra => exact ⟨_, rfl, ⟨_, .inl (.inl (hid_le _ _ hx))⟩, q _ T1 H1 st1 s1 (wk_lst hx ra)⟩
  | tuple ds =>
    cases h2
    refine .inr (ha pn F T H σ ρ _ _ st h1 _ fun v T1 H1 st1 s1 rv => ?_)
    cases rv with
    | tup hx _ ra => exact ⟨_, rfl, ⟨_, .inl (.inr ⟨_, hid_le _ _ hx⟩)⟩, q _ T1 H1 st1 s1 (wk_tup hx ra)⟩
  | dict kvs =>
    refine .inl (ha pn F T H σ ρ _ _ st h1 _ fun v T1 H1 st1 s1 rv => ?_)
    cases rv with
    | dic _ => cases h2
    | scr hs ra => cases h2; exact ⟨_, rfl, ⟨_, sqx hid_le hs⟩, q _ T1 H1 st1 s1 (wk_scr hs ra)⟩
  | _ => cases h2
theorem swi_rng {as : XWA} (hs : SWA ts as) : SWI false (iRng1 ts) (wiA rngP as) := fun pn F T H σ ρ xs ρ' st h R q => by
  obtain ⟨⟨ds, ρ1⟩, h1, h⟩ := bind_some h
  obtain ⟨ys, h2, h⟩ := bind_some h
  cases h
  refine hs pn F T H σ ρ ds _ st h1 _ fun vs T1 H1 st1 s1 rv => ?_
  obtain ⟨j, h2, h3, h4, w⟩ := core_rng h2 rv
  exact ⟨j, h2, h3, h4, q _ T1 H1 st1 s1 w⟩
theorem swi_rng2 {as : XWA} (hs : SWA ts as) : SWI false (iRng2 ts) (wiA rng2P as) := fun pn F T H σ ρ xs ρ' st h R q => by
  obtain ⟨⟨ds, ρ1⟩, h1, h⟩ := bind_some h
  obtain ⟨ys, h2, h⟩ := bind_some h
  cases h
  refine hs pn F T H σ ρ ds _ st h1 _ fun vs T1 H1 st1 s1 rv => ?_
  obtain ⟨i, j, h2, h3, w⟩ := core_rng2 h2 rv
  exact ⟨i, j, h2, h3, q _ T1 H1 st1 s1 w⟩
theorem swi_enum {as : XWA} (hs : SWA ts as) : SWI true (iEnumU K ts) (wiA enumP as) := fun pn F T H σ ρ xs ρ' st h R q => by
  obtain ⟨⟨ds, ρ1⟩, h1, h⟩ := bind_some h
  obtain ⟨ys, h2, h⟩ := bind_some h
  cases h
  rcases enum_l h2 with ⟨l, e⟩ | ⟨l, e⟩ <;> (have e : ds = _ := e; subst e)
  · refine .inl (hs pn F T H σ ρ _ _ st h1 _ fun vs T1 H1 st1 s1 rv => ?_)
    cases h2
    cases rv with
    | cons g1 t =>
      cases t
      cases g1 with
      | lst ha ra => exact ⟨_, _, rfl, .inl (.inl (hid_le _ _ ha)), q _ T1 H1 st1 s1 (wk_enumL ha ra)⟩
  · refine .inr (hs pn F T H σ ρ _ _ st h1 _ fun vs T1 H1 st1 s1 rv => ?_)
    cases h2
    cases rv with
    | cons g1 t =>
      cases t
      cases g1 with
      | tup ha _ ra => exact ⟨_, _, rfl, .inl (.inr ⟨_, hid_le _ _ ha⟩), q _ T1 H1 st1 s1 (wk_enumT ha ra)⟩
theorem swi_zip {as : XWA} (hs : SWA ts as) : SWI true (RZ.iZipA K ts) (wiA zipP as) := fun pn F T H σ ρ xs ρ' st h R q => by
  obtain ⟨⟨ds, ρ1⟩, h1, h⟩ := bind_some h
  obtain ⟨ys, h2, h⟩ := bind_some h
  cases h
  exact hs pn F T H σ ρ ds _ st h1 _ fun vs T1 H1 st1 s1 rv => core_zip h2 rv fun J w => q J T1 H1 st1 s1 w
end
end Uv

namespace Uv
open PySem PySem.Spec PyProof.Rows L2
open Evl (Ex)
variable [kk : KK]
/-! ### targets -/
def Off (vs : List Nat) (σ σ' : L2.St) : Prop := σ'.length = σ.length ∧ ∀ (i : Nat), i ∉ vs → σ'[i]? = σ[i]?
theorem Off.refl {vs : List Nat} {σ : L2.St} : Off vs σ σ := ⟨rfl, fun _ _ => rfl⟩
theorem Off.name {i : Nat} {σ : L2.St} {o : Option V} : Off [i] σ (σ.set i o) := ⟨List.length_set, fun j hj => List.getElem?_set_ne fun z => hj (by rw [z]; exact List.mem_cons_self ..)⟩
theorem Off.trans {vs ws : List Nat} {σ σ1 σ2 : L2.St} (a : Off vs σ σ1) (b : Off ws σ1 σ2) : Off (vs ++ ws) σ σ2 := ⟨b.1.trans a.1, fun i hi => (b.2 i fun z => hi (List.mem_append_right _ z)).trans (a.2 i fun z => hi (List.mem_append_left _ z))⟩
def gTU (K : PySem.W.Frag) (n : Nat) (t : TGs) : TG := fun v σ H Q => gTup K n t v σ H Q ∨ gUnl K n t v σ H Q
theorem PG.or {X : Cx} {e : Expr} {t u : TG} (h : PG X e t) (h' : PG X e u) : PG X e (fun v σ H Q => t v σ H Q ∨ u v σ H Q) := ⟨fun pins s σ H v w Q I r q => q.elim (h.run pins s σ H v w Q I r) (h'.run pins s σ H v w Q I r)⟩
abbrev XGV := PD → VE → Option VE
abbrev XGVs := List PD → VE → Option VE
def gvName (i : Nat) : XGV := fun x ρ => some (ρ.set i (some x))
def gvNil : XGVs := fun xs ρ => match xs with
  | [] => some ρ
  | _ :: _ => none
def gvCons (g : XGV) (gs : XGVs) : XGVs := fun xs ρ => match xs with
  | x :: r => (g x ρ).bind fun ρ1 => gs r ρ1
  | [] => none
def gvTup (n : Nat) (gs : XGVs) : XGV := fun x ρ => (seqP x).bind fun ds => if ds.length = n then gs ds ρ else none
def SGV (b : Bool) (g : TG) (xg : XGV) (vs : List Nat) : Prop := ∀ x ρ ρ', xg x ρ = some ρ' → ∀ S σ H v, En (hid S H) σ ρ → Rk b (hid S H) v x → ∀ Q : L2.St → Hp → Prop, (∀ σ', En (hid S H) σ' ρ' → Off vs σ σ' → Q σ' H) → g v σ H Q
def SGVs (gs : TGs) (xg : XGVs) (vs : List Nat) : Prop := ∀ xs ρ ρ', xg xs ρ = some ρ' → ∀ S σ H ws, En (hid S H) σ ρ → RpAll (hid S H) ws xs → ∀ Q : L2.St → Hp → Prop, (∀ σ', En (hid S H) σ' ρ' → Off vs σ σ' → Q σ' H) → gs ws σ H Q
abbrev XG := PD → Env → Option Env
abbrev XGs := List PD → Env → Option Env
def gName' (i : Nat) : XG := fun x ρ => some (ρ.set i (.dat x))
def gNil' : XGs := fun xs ρ => match xs with
  | [] => some ρ
  | _ :: _ => none
def gCons' (g : XG) (gs : XGs) : XGs := fun xs ρ => match xs with
  | x :: r => (g x ρ).bind fun ρ1 => gs r ρ1
  | [] => none
def gTup' (n : Nat) (gs : XGs) : XG := fun x ρ => (seqP x).bind fun ds => if ds.length = n then gs ds ρ else none
def SG (b : Bool) (g : TG) (xg : XG) (vs : List Nat) : Prop := ∀ pn F T H σ v x ρ ρ', StOk pn F T H σ ρ → xg x ρ = some ρ' → Rk b (hid (SF F T) H) v x → ∀ Q : L2.St → Hp → Prop, (∀ σ' T', StOk pn F T' H σ' ρ' → Stp F T H T' H → Off vs σ σ' → Q σ' H) → g v σ H Q
def SGs (gs : TGs) (xg : XGs) (vs : List Nat) : Prop := ∀ pn F T H σ ws xs ρ ρ', StOk pn F T H σ ρ → xg xs ρ = some ρ' → RpAll (hid (SF F T) H) ws xs → ∀ Q : L2.St → Hp → Prop, (∀ σ' T', StOk pn F T' H σ' ρ' → Stp F T H T' H → Off vs σ σ' → Q σ' H) → gs ws σ H Q
section
variable {vs ws : List Nat}
theorem sgv_name {i : Nat} : SGV false (gName i) (gvName i) [i] := fun x ρ ρ' h S σ H v en r Q q => by
  cases h
  rcases r with r | ⟨z, _⟩
  · exact q _ (en.set i r) Off.name
  · cases z
theorem sgv_nil : SGVs gNil gvNil [] := fun xs ρ ρ' h S σ H us en r Q q => by
  cases r with
  | nil => cases h; exact ⟨rfl, q σ en Off.refl⟩
  | cons _ _ => cases h
theorem sgv_cons {g : TG} {gs : TGs} {xg : XGV} {xgs : XGVs} (hg : SGV false g xg vs) (hs : SGVs gs xgs ws) : SGVs (gCons g gs) (gvCons xg xgs) (vs ++ ws) := fun xs ρ ρ' h S σ H us en r Q q => by
  cases r with
  | nil => cases h
  | cons a b =>
    obtain ⟨ρ1, h1, h2⟩ := bind_some (show (xg _ ρ).bind _ = some ρ' from h)
    exact ⟨_, _, rfl, hg _ ρ ρ1 h1 S σ H _ en (.inl a) _ fun σ1 en1 f1 => hs _ ρ1 ρ' h2 S σ1 H _ en1 b Q fun σ2 en2 f2 => q σ2 en2 (f1.trans f2)⟩
theorem seq_read {b : Bool} {n : Nat} {H G : Hp} {v : V} {x : PD} {ds : List PD} (e : Ex G H) (hx : seqP x = some ds) (hn : ds.length = n) (r : Rk b G v x) : ∃ a us, v = .ref a ∧ (SqT K H a us ∨ SqL K H a us) ∧ us.length = n ∧ RpAll G us ds := by
  rcases r with r | ⟨_, a, us, es, rfl, ha, ra, rfl⟩
  · cases r with
    | lst ha ra => cases hx; exact ⟨_, _, rfl, .inr (.inl (.inl (e _ _ ha))), by rw [ra.length, hn], ra⟩
    | tup ha _ ra => cases hx; exact ⟨_, _, rfl, .inl (.inl (.inr ⟨_, e _ _ ha⟩)), by rw [ra.length, hn], ra⟩
    | scr hs ra => cases hx; exact ⟨_, _, rfl, .inr (sqx e hs), by rw [ra.length, hn], ra⟩
    | _ => cases hx
  · cases hx
    exact ⟨a, us, rfl, .inl (.inl (.inl (e _ _ ha))), by rw [ra.length, hn], ra⟩
theorem sgv_tup {b : Bool} {n : Nat} {gs : TGs} {xgs : XGVs} (hs : SGVs gs xgs vs) : SGV b (gTU K n gs) (gvTup n xgs) vs := fun x ρ ρ' h S σ H v en r Q q => by
  obtain ⟨ds, h1, h⟩ := bind_some h
  by_cases c : ds.length = n
  · rw [if_pos c] at h
    obtain ⟨a, us, rfl, sq, hl, ra⟩ := seq_read (hid_le (S := S)) h1 c r
    rcases sq with sq | sq
    · exact .inl ⟨a, us, rfl, sq, hl, hs ds ρ ρ' h S σ H us en ra Q q⟩
    · exact .inr ⟨a, us, rfl, sq, hl, hs ds ρ ρ' h S σ H us en ra Q q⟩
  · rw [if_neg c] at h; cases h
theorem sg_name {i : Nat} (hi : i ≠ 0) : SG false (gName i) (gName' i) [i] := fun pn F T H σ v x ρ ρ' st h r Q q => by
  cases h
  rcases r with r | ⟨z, _⟩
  · obtain ⟨st', s⟩ := st.set hi r
    exact q _ _ st' s Off.name
  · cases z
theorem sg_nil : SGs gNil gNil' [] := fun pn F T H σ us xs ρ ρ' st h r Q q => by
  cases r with
  | nil => cases h; exact ⟨rfl, q σ T st Stp.refl Off.refl⟩
  | cons _ _ => cases h
theorem sg_cons {g : TG} {gs : TGs} {xg : XG} {xgs : XGs} (hg : SG false g xg vs) (hs : SGs gs xgs ws) : SGs (gCons g gs) (gCons' xg xgs) (vs ++ ws) := fun pn F T H σ us xs ρ ρ' st h r Q q => by
  cases r with
  | nil => cases h
  | cons a b =>
    obtain ⟨ρ1, h1, h2⟩ := bind_some (show (xg _ ρ).bind _ = some ρ' from h)
    exact ⟨_, _, rfl, hg pn F T H σ _ _ ρ ρ1 st h1 (.inl a) _ fun σ1 T1 st1 s1 f1 => hs pn F T1 H σ1 _ _ ρ1 ρ' st1 h2 (b.ex s1.vis) Q fun σ2 T2 st2 s2 f2 => q σ2 T2 st2 (s1.trans s2) (f1.trans f2)⟩
theorem sg_tup {b : Bool} {n : Nat} {gs : TGs} {xgs : XGs} (hs : SGs gs xgs vs) : SG b (gTU K n gs) (gTup' n xgs) vs := fun pn F T H σ v x ρ ρ' st h r Q q => by
  obtain ⟨ds, h1, h⟩ := bind_some h
  by_cases c : ds.length = n
  · rw [if_pos c] at h
    obtain ⟨a, us, rfl, sq, hl, ra⟩ := seq_read (hid_le (S := SF F T)) h1 c r
    rcases sq with sq | sq
    · exact .inl ⟨a, us, rfl, sq, hl, hs pn F T H σ us ds ρ ρ' st h ra Q q⟩
    · exact .inr ⟨a, us, rfl, sq, hl, hs pn F T H σ us ds ρ ρ' st h ra Q q⟩
  · rw [if_neg c] at h; cases h
end
/-! ### comprehensions, pure -/
def clear (ρ : VE) : List Nat → VE
  | [] => ρ
  | v :: vs => (clear ρ vs).set v none
theorem clear_en {H : Hp} {σ : L2.St} {ρ : VE} (h : En H σ ρ) : ∀ vs : List Nat, En H (wipe σ vs) (clear ρ vs)
  | [] => h
  | v :: vs => (clear_en h vs).clear v none
theorem wipe_get {σ : L2.St} {i : Nat} : ∀ {vs : List Nat}, i ∉ vs → (wipe σ vs)[i]? = σ[i]?
  | [], _ => rfl
  | v :: vs, h => by
    unfold wipe
    rw [List.getElem?_set_ne (fun z => h (by rw [← z]; exact List.mem_cons_self ..))]
    exact wipe_get fun z => h (List.mem_cons_of_mem _ z)
theorem wipe_at {σ : L2.St} {i : Nat} : ∀ {vs : List Nat}, i ∈ vs → i < σ.length → (wipe σ vs)[i]? = some none
  | v :: vs, h, hl => by
    unfold wipe
    by_cases c : v = i
    · subst c
      exact List.getElem?_set_self (by rw [wipe_length]; exact hl)
    · rw [List.getElem?_set_ne c]
      rcases List.mem_cons.mp h with z | z
      · exact absurd z.symm c
      · exact wipe_at z hl
theorem wipe_eq {σ τ : L2.St} {vs : List Nat} (hl : σ.length = τ.length) (h : ∀ i, i ∉ vs → σ[i]? = τ[i]?) : wipe σ vs = wipe τ vs := by
  apply List.ext_getElem?
  intro i
  by_cases c : i ∈ vs
  · by_cases b : i < σ.length
    · rw [wipe_at c b, wipe_at c (by omega)]
    · rw [List.getElem?_eq_none (by rw [wipe_length]; omega), List.getElem?_eq_none (by rw [wipe_length]; omega)]
  · rw [wipe_get c, wipe_get c]
    exact h i c
theorem wipe_off {vs : List Nat} {σ τ : L2.St} {us : List Nat} (f : Off us (wipe σ vs) τ) (hu : ∀ i ∈ us, i ∈ vs) : wipe τ vs = wipe σ vs := by
  have ew : wipe (wipe σ vs) vs = wipe σ vs := wipe_eq (wipe_length σ vs) fun j hj => wipe_get hj
  rw [← ew]
  exact wipe_eq f.1 fun j hj => f.2 j fun z => hj (hu j z)
def lcGo (g : XGV) (t : XT) (e : XE) (ρ : VE) : List PD → Option (List PD)
  | [] => some []
  | x :: xs => (g x ρ).bind fun ρ1 => (t ρ1).bind fun b => if b = true then (e ρ1).bind fun d => (lcGo g t e ρ xs).bind fun ds => some (d :: ds) else lcGo g t e ρ xs
def xLc (src : XI) (g : XGV) (t : XT) (e : XE) (vs : List Nat) : XE := fun ρ => (src ρ).bind fun xs => if xs.length ≤ 40000 then (lcGo g t e (clear ρ vs) xs).bind fun ds => some (.list ds) else none
/-- a list that is new -/
def FrL (te : TE) (ρ : VE) (ds : List PD) : Prop := ∀ S σ H, Al S H → En (hid S H) σ ρ → ∀ Q : VK, (∀ p vs H2, Ex H H2 → H p = none → H2 p = some (.lst vs) → RpAll (hid (fun x => x = p ∨ S x) H2) vs ds → Q (.ref p) H2) → te σ H Q
def SEF (te : TE) (x : XE) : Prop := ∀ ρ d, x ρ = some d → ∃ ds, d = .list ds ∧ FrL te ρ ds
theorem SEF.se {te : TE} {x : XE} (h : SEF te x) : SE te x := fun ρ d e S σ H al en Q q => by
  obtain ⟨ds, rfl, f⟩ := h ρ d e
  exact f S σ H al en Q fun p vs H2 e2 hp h2 ra => q _ H2 e2 (.lst (by rw [hid_out (al.new hp)]; exact h2) (ra.ex (hid_sub fun x hx => .inr hx)))
section
theorem lc_step {g : XGV} {t : XT} {e : XE} {ρ : VE} {x : PD} {xs ds : List PD} (h : lcGo g t e ρ (x :: xs) = some ds) : ∃ ρ1 b, g x ρ = some ρ1 ∧ t ρ1 = some b ∧ ((b = true ∧ ∃ d ds', e ρ1 = some d ∧ lcGo g t e ρ xs = some ds' ∧ ds = d :: ds') ∨ (b = false ∧ lcGo g t e ρ xs = some ds)) := by
  obtain ⟨ρ1, h1, h⟩ := bind_some (show (g x ρ).bind _ = some ds from h)
  obtain ⟨b, h2, h⟩ := bind_some h
  refine ⟨ρ1, b, h1, h2, ?_⟩
  cases b with
  | true =>
    obtain ⟨d, h3, h⟩ := bind_some (show (e ρ1).bind _ = some ds from h)
    obtain ⟨ds', h4, h⟩ := bind_some h
    cases h
    exact .inl ⟨rfl, d, ds', h3, h4, rfl⟩
  | false => exact .inr ⟨rfl, h⟩
theorem sef_lc {b : Bool} {wi : TI} {g : TG} {tt : TT} {te : TE} {vs us : List Nat} {src : XI} {xg : XGV} {t : XT} {e : XE} (hs : SI b wi src) (hg : SGV b g xg us) (hu : ∀ i ∈ us, i ∈ vs) (ht : ST tt t) (he : SE te e) : SEF (tLc wi g tt te vs) (xLc src xg t e vs) := fun ρ d h => by
  obtain ⟨xs, h1, h⟩ := bind_some h
  by_cases hz : xs.length ≤ 40000
  · rw [if_pos hz] at h
    obtain ⟨ds, h2, h⟩ := bind_some h
    cases h
    refine ⟨ds, rfl, fun S σ H al en Q q => hs ρ xs h1 S σ H al en _ fun J H1 e1 wk D hD => ?_⟩
    have al1 := al.ex e1
    have alD : Al (fun x => x = D ∨ S x) (upd H1 D (.lst [])) := fun x hx => by
      by_cases c : x = D
      · subst c; rw [upd_same]; exact fun z => nomatch z
      · rw [upd_ne c]; exact al1 x (hx.resolve_left c)
    refine ⟨fun i m H' => m = xs.length - i ∧ i ≤ xs.length ∧ Ex H1 H' ∧ Al (fun x => x = D ∨ S x) H' ∧ ∃ acc ds1 ds2, H' D = some (.lst acc) ∧ acc.length ≤ i ∧ RpAll (hid (fun x => x = D ∨ S x) H') acc ds1 ∧ lcGo xg t e (clear ρ vs) (xs.drop i) = some ds2 ∧ ds = ds1 ++ ds2,
      ⟨_, rfl, Nat.zero_le _, Ex.new hD, alD, [], [], ds, upd_same, Nat.le_refl _, .nil, h2, rfl⟩, fun i m H' hw => ?_⟩
    obtain ⟨rfl, hi, e2, al2, acc, ds1, ds2, hacc, la, ra, hgo, hds⟩ := hw
    have ewk : Ex (hid S H1) (hid (fun x => x = D ∨ S x) H') := hid_cons e2 hD
    obtain ⟨w1, w2⟩ := wk _ H' ewk al2
    by_cases hlt : i < xs.length
    · obtain ⟨w3, w4⟩ := w2 i _ (List.getElem?_eq_getElem hlt)
      rw [List.drop_eq_getElem_cons hlt] at hgo
      obtain ⟨ρ1, b1, g1, t1, alt⟩ := lc_step hgo
      refine .inr ⟨w3, fun H2 => Ex H1 H2 ∧ Al (fun x => x = D ∨ S x) H2 ∧ ∃ acc ds1 ds2, H2 D = some (.lst acc) ∧ acc.length ≤ i + 1 ∧ RpAll (hid (fun x => x = D ∨ S x) H2) acc ds1 ∧ lcGo xg t e (clear ρ vs) (xs.drop (i + 1)) = some ds2 ∧ ds = ds1 ++ ds2, fun H2 hn => ⟨_, by omega, rfl, hlt, hn⟩, fun v H3 y => ?_⟩
      obtain ⟨e3, rv⟩ := w4 v H3 y
      have al3 := al2.ex e3
      have en3 : En (hid (fun x => x = D ∨ S x) H3) (wipe σ vs) (clear ρ vs) := clear_en (en.ex (((hid_ex e1).trans ewk).trans (hid_ex e3))) vs
      refine hg _ _ ρ1 g1 _ (wipe σ vs) H3 v en3 rv _ fun σ4 en4 off => ⟨wipe_off off hu, ?_⟩
      refine ht ρ1 b1 t1 _ σ4 H3 al3 en4 _ fun H5 e5 => ?_
      have hacc5 : H5 D = some (.lst acc) := e5 _ _ (e3 _ _ hacc)
      have ra5 := ra.ex ((hid_ex (S := fun x => x = D ∨ S x) e3).trans (hid_ex e5))
      rcases alt with ⟨rfl, d1, ds', f1, f2, rfl⟩ | ⟨rfl, f2⟩
      · show te σ4 H5 _
        refine he ρ1 d1 f1 _ σ4 H5 (al3.ex e5) (en4.ex (hid_ex e5)) _ fun z H6 e6 rz => ⟨acc, e6 _ _ hacc5, Evl.sz_lt (by omega), Ex.mut (((e2.trans e3).trans e5).trans e6) hD, ?_, acc ++ [z], ds1 ++ [d1], ds', upd_same, by rw [List.length_append]; simpa using la, ?_, f2, by rw [hds, List.append_assoc]; rfl⟩
        · intro x hx
          by_cases c : x = D
          · subst c; rw [upd_same]; exact fun q => nomatch q
          · rw [upd_ne c]; exact ((al3.ex e5).ex e6) x hx
        · have hu' : Ex (hid (fun x => x = D ∨ S x) H6) (hid (fun x => x = D ∨ S x) (upd H6 D (.lst (acc ++ [z])))) := fun x o h => by
            obtain ⟨c, h⟩ := hid_some h
            rw [hid_out c, upd_ne (fun z => c (.inl z))]
            exact h
          exact RpAll.append (ra5.ex ((hid_ex e6).trans hu')) (.cons (rz.ex hu') .nil)
      · exact ⟨(e2.trans e3).trans e5, al3.ex e5, acc, ds1, ds2, hacc5, by omega, ra5, f2, hds⟩
    · have ei : i = xs.length := by omega
      subst ei
      rw [List.drop_length] at hgo
      cases hgo
      rw [List.append_nil] at hds
      subst hds
      exact .inl ⟨w1, q D acc H' (e1.trans e2) (by
        cases qq : H D with
        | none => rfl
        | some o => rw [e1 _ _ qq] at hD; cases hD) hacc ra⟩
  · rw [if_neg hz] at h; cases h
theorem sef_lst {ts : TA} {as : XA} (hs : SA ts as) : SEF (tLst ts) (xLst as) := fun ρ d h => by
  obtain ⟨ds, h1, h⟩ := bind_some h
  by_cases hl : ds.length ≤ 100000
  · rw [if_pos hl] at h
    cases h
    refine ⟨ds, rfl, fun S σ H al en Q q => hs ρ ds h1 S σ H al en _ fun vs H1 e1 ra => ⟨by rw [ra.length]; exact Evl.sz_of hl, fun p hp => q p vs _ (e1.trans (Ex.new hp)) (by
      cases qq : H p with
      | none => rfl
      | some o => rw [e1 _ _ qq] at hp; cases hp) upd_same (ra.ex (hid_cons (Ex.new hp) hp))⟩⟩
  · rw [if_neg hl] at h; cases h
theorem sef_list {ta : TE} {a : XE} (ha : SE ta a) : SEF (tCB (rListQ K) (tCons ta tNil)) (xUn listP a) := fun ρ d h => by
  obtain ⟨x, h1, h⟩ := bind_some h
  have fresh : ∀ {H H1 : Hp} {p : Addr}, Ex H H1 → H1 p = none → H p = none := fun {H H1 p} e hp => by
    cases qq : H p with
    | none => rfl
    | some o => rw [e _ _ qq] at hp; cases hp
  cases x with
  | list ds =>
    cases h
    refine ⟨ds, rfl, fun S σ H al en Q q => ha ρ _ h1 S σ H al en _ fun v H1 e1 rv => ?_⟩
    cases rv with
    | lst hx ra => exact ⟨_, _, rfl, .inl (.inl (.inl (hid_le _ _ hx))), fun l hl => q l _ _ (e1.trans (Ex.new hl)) (fresh e1 hl) upd_same (ra.ex (hid_cons (Ex.new hl) hl))⟩
  | tuple ds =>
    cases h
    refine ⟨ds, rfl, fun S σ H al en Q q => ha ρ _ h1 S σ H al en _ fun v H1 e1 rv => ?_⟩
    cases rv with
    | tup hx _ ra => exact ⟨_, _, rfl, .inr (.inl (.inr ⟨_, hid_le _ _ hx⟩)), fun l hl => q l _ _ (e1.trans (Ex.new hl)) (fresh e1 hl) upd_same (ra.ex (hid_cons (Ex.new hl) hl))⟩
  | _ => cases h
end
end Uv

namespace Uv
open PySem PySem.Spec PyProof.Rows L2
open Evl (Ex)
variable [kk : KK]
/-! ### new lists, owned -/
theorem FL_nil {F : Hs} : FL F [] = F := funext fun x => propext ⟨fun h => h.elim id (fun z => nomatch z), .inl⟩
theorem FL_app {F : Hs} {A B : List Addr} : FL (FL F A) B = FL F (A ++ B) := funext fun x => propext ⟨fun h => h.elim (fun h => h.elim .inl fun z => .inr (List.mem_append_left _ z)) fun z => .inr (List.mem_append_right _ z),
  fun h => h.elim (fun h => .inl (.inl h)) fun z => (List.mem_append.mp z).elim (fun z => .inl (.inr z)) .inr⟩
theorem FL_perm {F : Hs} {A B : List Addr} (h : ∀ x, x ∈ A ↔ x ∈ B) : FL F A = FL F B := funext fun x => propext ⟨fun z => z.elim .inl fun z => .inr ((h x).mp z), fun z => z.elim .inl fun z => .inr ((h x).mpr z)⟩
theorem SF_FL1 {F : Hs} {T : Trs} {p : Addr} : SF (FL F [p]) T = fun x => x = p ∨ SF F T x := funext fun x => propext ⟨fun h => h.elim (fun h => h.elim (fun z => .inr (.inl z)) fun z => .inl (by simpa using z)) fun z => .inr (.inr z),
  fun h => h.elim (fun z => .inl (.inr (by rw [z]; exact List.mem_cons_self ..))) fun z => z.elim (fun z => .inl (.inl z)) .inr⟩
theorem ex_none {H H1 : Hp} {p : Addr} (e : Ex H H1) (hp : H1 p = none) : H p = none := by
  cases qq : H p with
  | none => rfl
  | some o => rw [e _ _ qq] at hp; cases hp
section
variable {pn : Option V} {F : Hs} {T : Trs} {H H2 : Hp} {σ : L2.St} {ρ : Env}
/-- one more new object in the frame -/
theorem StOk.fresh (st : StOk pn F T H σ ρ) (e : Ex H H2) {p : Addr} (hp : H p = none) (h2 : H2 p ≠ none) : StOk pn (FL F [p]) T H2 σ ρ ∧ Ex (hid (SF F T) H) (hid (SF (FL F [p]) T) H2) := by
  have vis : Ex (hid (SF F T) H) (hid (SF (FL F [p]) T) H2) := by rw [SF_FL1]; exact hid_cons e hp
  have st2 := st.ex e
  refine ⟨⟨st.len, fun x h => ?_, fun i x hx z => ?_, st.dis, st.nd, st.out, fun i s hi => ?_, st.pin⟩, vis⟩
  · rcases h with h | h
    · exact st2.al x h
    · have ex : x = p := by simpa using h
      rw [ex]; exact h2
  · rcases z with z | z
    · exact st.off i x hx z
    · have ex : x = p := by simpa using z
      obtain ⟨vs, q⟩ := st.lst hx
      rw [ex, hp] at q
      cases q
  · obtain ⟨o, h1, h3⟩ := st.sl i s hi
    refine ⟨o, h1, h3.mv vis fun x hx => ?_⟩
    obtain ⟨vs, q⟩ := st.lst hx
    rw [q, e x _ q]
end
abbrev XWC := Env → Option (List Cel × Env)
def SWC (ta : TA) (w : XWC) : Prop := ∀ pn F T H σ ρ cs ρ', StOk pn F T H σ ρ → w ρ = some (cs, ρ') → ∀ Q : List V → Hp → Prop, (∀ vs B T' H', StOk pn (FL F B) T' H' σ ρ' → B.Nodup → (∀ x ∈ B, ¬ F x) → (∀ x, F x → H' x = H x) → Ex (hid (SF F T) H) (hid (SF (FL F B) T') H') → Cels (hid (SF (FL F B) T') H') H' vs cs B → Q vs H') → ta σ H Q
def asList : PD → Option (List PD)
  | .list ds => some ds
  | _ => none
theorem asList_eq {d : PD} {ds : List PD} (h : asList d = some ds) : d = .list ds := by
  cases d with
  | list l => cases h; rfl
  | _ => cases h
def wOM (x : XE) : XWO := fun ρ => ((x (mk ρ)).bind asList).bind fun ds => some (ds.map Cel.dat, ρ)
def wOV (x : XE) : XWO := fun ρ => ((x (vw ρ)).bind asList).bind fun ds => if flats ds = true then some (ds.map Cel.dat, ρ) else none
theorem Cels.dats {G H : Hp} : ∀ {vs : List V} {ds : List PD}, RpAll G vs ds → Cels G H vs (ds.map Cel.dat) []
  | _, _, .nil => .nil
  | _, _, .cons h r => .dat h (Cels.dats r)
theorem swo_M {te : TE} {x : XE} (h : SEF te x) : SWO te (wOM x) := fun pn F T H σ ρ cs ρ' st e Q q => by
  obtain ⟨ds, h1, h2⟩ := bind_some e
  obtain ⟨d, h1, h3⟩ := bind_some h1
  cases h2
  have e := asList_eq h3
  subst e
  obtain ⟨ds', e', f⟩ := h _ _ h1
  cases e'
  refine f (SF F T) σ H st.als st.mkd Q fun p vs H2 e2 hp h2 ra => ?_
  obtain ⟨st2, vis⟩ := st.fresh e2 hp (by rw [h2]; exact fun z => nomatch z)
  refine q _ [p] T H2 st2 (by simp) (fun x hx => ?_) (Stp.ex (T := T) st.al e2).fr vis ⟨p, vs, [], rfl, h2, Cels.dats (by rw [SF_FL1]; exact ra), rfl⟩
  have ex : x = p := by simpa using hx
  rw [ex]
  exact st.al.new hp
theorem swo_V {te : TE} {x : XE} (h : SEF te x) : SWO te (wOV x) := fun pn F T H σ ρ cs ρ' st e Q q => by
  obtain ⟨ds, h1, h2⟩ := bind_some e
  obtain ⟨d, h1, h3⟩ := bind_some h1
  by_cases c : flats ds = true
  · rw [if_pos c] at h2
    cases h2
    have e := asList_eq h3
    subst e
    obtain ⟨ds', e', f⟩ := h _ _ h1
    cases e'
    refine f F σ H st.al st.vw Q fun p vs H2 e2 hp h2 ra => ?_
    obtain ⟨st2, vis⟩ := st.fresh e2 hp (by rw [h2]; exact fun z => nomatch z)
    have fr : ∀ x o u, hid (fun x => x = p ∨ F x) H2 x = some (.frz o u) → hid (SF (FL F [p]) T) H2 x = some (.frz o u) := fun x o u hh => by
      obtain ⟨c1, c2⟩ := hid_some hh
      exact st2.frz (Ex.refl _) x o u (by rw [hid_out]; exact c2; exact fun z => c1 (z.elim .inr fun z => .inl (by simpa using z)))
    refine q _ [p] T H2 st2 (by simp) (fun x hx => ?_) (Stp.ex (T := T) st.al e2).fr vis ⟨p, vs, [], rfl, h2, Cels.dats (ra.flat fr c), rfl⟩
    have ex : x = p := by simpa using hx
    rw [ex]
    exact st.al.new hp
  · rw [if_neg c] at h2; cases h2
/-- a new list becomes data at once -/
def wFz (o : XWO) : XW := fun ρ => (o ρ).bind fun x => some (.list (x.1.map Cel.pd), x.2)
theorem sw_fz {te : TE} {o : XWO} (h : SWO te o) : SW te (wFz o) := fun pn F T H σ ρ d ρ' st e Q q => by
  obtain ⟨⟨cs, ρ1⟩, h1, e⟩ := bind_some e
  cases e
  refine h pn F T H σ ρ cs _ st h1 Q fun v A T' H' st' nd off fr vis ow => ?_
  obtain ⟨st2, sub⟩ := st'.thaw
  refine q v T' H' st2 ⟨fr, vis.trans sub⟩ (ow.rp sub fun x hx => hid_out ?_)
  rintro (z | ⟨i, z⟩)
  · exact off x hx z
  · exact st'.off i x z (.inr hx)
/-! items one by one -/
def wcNil : XWC := fun ρ => some ([], ρ)
def wcDat (a : XW) (as : XWC) : XWC := fun ρ => (a ρ).bind fun x => (as x.2).bind fun xs => some (.dat x.1 :: xs.1, xs.2)
def allDat : List Cel → Option (List PD)
  | [] => some []
  | .dat d :: r => (allDat r).bind fun ds => some (d :: ds)
  | .sub _ :: _ => none
theorem allDat_map : ∀ ds : List PD, allDat (ds.map Cel.dat) = some ds
  | [] => rfl
  | d :: ds => by rw [List.map_cons, allDat, allDat_map ds]; rfl
theorem allDat_eq : ∀ {cs : List Cel} {ds : List PD}, allDat cs = some ds → cs = ds.map Cel.dat
  | [], ds, h => by cases h; rfl
  | .dat d :: r, ds, h => by
    obtain ⟨es, h1, h2⟩ := bind_some (show (allDat r).bind _ = some ds from h)
    cases h2
    rw [allDat_eq h1]
    rfl
  | .sub _ :: _, _, h => nomatch h
def wcSub (a : XWO) (as : XWC) : XWC := fun ρ => (a ρ).bind fun x => (allDat x.1).bind fun ds => (as x.2).bind fun xs => some (.sub ds :: xs.1, xs.2)
theorem Cels.dats_inv {G H : Hp} : ∀ {vs : List V} {ds : List PD} {B : List Addr}, Cels G H vs (ds.map Cel.dat) B → RpAll G vs ds ∧ B = []
  | _, [], _, .nil => ⟨.nil, rfl⟩
  | _, d :: ds, _, .dat r c => ⟨.cons r (Cels.dats_inv c).1, (Cels.dats_inv c).2⟩
theorem swc_nil : SWC tNil wcNil := fun pn F T H σ ρ cs ρ' st e Q q => by
  cases e
  exact q [] [] T H (by rw [FL_nil]; exact st) (by simp) (fun x hx => nomatch hx) (fun _ _ => rfl) (by rw [FL_nil]; exact Ex.refl _) .nil
theorem swc_dat {ta : TE} {ts : TA} {a : XW} {as : XWC} (ha : SW ta a) (hs : SWC ts as) : SWC (tCons ta ts) (wcDat a as) := fun pn F T H σ ρ cs ρ' st e Q q => by
  obtain ⟨⟨x, ρ1⟩, h1, e⟩ := bind_some e
  obtain ⟨⟨xs, ρ2⟩, h2, e⟩ := bind_some e
  cases e
  exact ha pn F T H σ ρ x ρ1 st h1 _ fun v T1 H1 st1 s1 rv => hs pn F T1 H1 σ ρ1 xs ρ2 st1 h2 _ fun vs B T2 H2 st2 nd off fr vis c =>
    q (v :: vs) B T2 H2 st2 nd off (fun x hx => (fr x hx).trans (s1.fr x hx)) (s1.vis.trans vis) (.dat (rv.ex vis) c)
theorem swc_sub {ta : TE} {ts : TA} {a : XWO} {as : XWC} (ha : SWO ta a) (hs : SWC ts as) : SWC (tCons ta ts) (wcSub a as) := fun pn F T H σ ρ cs ρ' st e0 Q q => by
  obtain ⟨⟨x, ρ1⟩, h1, e1⟩ := bind_some e0
  obtain ⟨ds, hd, e2⟩ := bind_some e1
  obtain ⟨⟨xs, ρ2⟩, h2, e3⟩ := bind_some e2
  have e4 : some (Cel.sub ds :: xs, ρ2) = some (cs, ρ') := e3
  clear e0 e1 e2 e3
  obtain ⟨rfl, rfl⟩ := Prod.mk.inj (Option.some.inj e4)
  have ex : x = _ := allDat_eq hd
  subst ex
  refine ha pn F T H σ ρ _ ρ1 st h1 _ fun v A T1 H1 st1 nd off fr vis ow => ?_
  obtain ⟨b, ws, B0, rfl, hb, cb, rfl⟩ := ow
  obtain ⟨ra, rfl⟩ := cb.dats_inv
  refine hs pn (FL F [b]) T1 H1 σ ρ1 xs ρ2 st1 h2 _ fun vs B T2 H2 st2 nd2 off2 fr2 vis2 c => ?_
  have eF : FL (FL F [b]) B = FL F (b :: B) := FL_app
  rw [eF] at st2 vis2 c
  have hb2 : H2 b = some (.lst ws) := by rw [fr2 b (.inr (List.mem_cons_self ..))]; exact hb
  refine q (.ref b :: vs) (b :: B) T2 H2 st2 (List.nodup_cons.mpr ⟨fun z => off2 b z (.inr (List.mem_cons_self ..)), nd2⟩) (fun x hx => ?_) (fun x hx => (fr2 x (.inl hx)).trans (fr x hx)) (vis.trans vis2) (.sub hb2 (ra.ex vis2) c)
  rcases List.mem_cons.mp hx with z | z
  · rw [z]; exact off b (List.mem_cons_self ..)
  · exact fun w => off2 x z (.inl w)
def wOL (as : XWC) : XWO := fun ρ => (as ρ).bind fun x => if x.1.length ≤ 100000 then some x else none
theorem swo_lst {ts : TA} {as : XWC} (hs : SWC ts as) : SWO (tLst ts) (wOL as) := fun pn F T H σ ρ cs ρ' st e Q q => by
  obtain ⟨⟨xs, ρ1⟩, h1, e⟩ := bind_some e
  by_cases hl : xs.length ≤ 100000
  · rw [if_pos hl] at e
    cases e
    refine hs pn F T H σ ρ _ _ st h1 _ fun vs B T1 H1 st1 nd off fr vis c => ⟨by rw [c.length]; exact Evl.sz_of hl, fun p hp => ?_⟩
    obtain ⟨st2, vis2⟩ := st1.fresh (Ex.new (o := .lst vs) hp) hp (by rw [upd_same]; exact fun z => nomatch z)
    have eF : FL (FL F B) [p] = FL F (p :: B) := by
      rw [FL_app]
      exact FL_perm fun x => by simp [or_comm]
    rw [eF] at st2 vis2
    have npB : ∀ x ∈ B, x ≠ p := fun x hx z => by
      have := st1.al x (.inr hx)
      rw [z, hp] at this
      exact this rfl
    have npF : ∀ x, F x → x ≠ p := fun x hx z => by
      have := st1.al x (.inl hx)
      rw [z, hp] at this
      exact this rfl
    refine q (.ref p) (p :: B) T1 _ st2 (List.nodup_cons.mpr ⟨fun z => npB p z rfl, nd⟩) (fun x hx => ?_) (fun x hx => by rw [upd_ne (npF x hx)]; exact fr x hx) (vis.trans vis2) ⟨p, vs, B, rfl, upd_same, c.mv vis2 fun x hx => upd_ne (npB x hx), rfl⟩
    rcases List.mem_cons.mp hx with z | z
    · rw [z]; exact fun w => npF p w rfl
    · exact off x z
  · rw [if_neg hl] at e; cases e
end Uv

namespace Uv
open PySem PySem.Spec PyProof.Rows L2
open Evl (Ex)
variable [kk : KK]
/-! ### statements -/
inductive Out | nxt (ρ : Env) | ret (d : PD) (ρ : Env) | retO (cs : List Cel) (ρ : Env) | brk (ρ : Env) | cnt (ρ : Env)
abbrev XS := Env → Option Out
def OutOk (pn : Option V) (F : Hs) (T : Trs) (H : Hp) (D : Ends) : Out → Prop
  | .nxt ρ => ∀ σ T' H', StOk pn F T' H' σ ρ → Stp F T H T' H' → D.nx σ H'
  | .brk ρ => ∀ σ T' H', StOk pn F T' H' σ ρ → Stp F T H T' H' → D.bk σ H'
  | .cnt ρ => ∀ σ T' H', StOk pn F T' H' σ ρ → Stp F T H T' H' → D.ct σ H'
  | .ret d ρ => ∀ v σ T' H', StOk pn F T' H' σ ρ → Stp F T H T' H' → Rp (hid (SF F T') H') v d → D.rt v H'
  | .retO cs ρ => ∀ v A σ T' H', StOk pn (FL F A) T' H' σ ρ → A.Nodup → (∀ x ∈ A, ¬ F x) → (∀ x, F x → H' x = H x) → Ex (hid (SF F T) H) (hid (SF (FL F A) T') H') → Own (hid (SF (FL F A) T') H') H' v cs A → D.rt v H'
def SS (ts : TS) (x : XS) : Prop := ∀ pn F T H σ ρ o D, StOk pn F T H σ ρ → x ρ = some o → OutOk pn F T H D o → ts D σ H
theorem OutOk.step {pn : Option V} {F : Hs} {T T1 : Trs} {H H1 : Hp} {D : Ends} (s : Stp F T H T1 H1) : ∀ {o : Out}, OutOk pn F T H D o → OutOk pn F T1 H1 D o
  | .nxt _, h => fun σ T' H' st s' => h σ T' H' st (s.trans s')
  | .brk _, h => fun σ T' H' st s' => h σ T' H' st (s.trans s')
  | .cnt _, h => fun σ T' H' st s' => h σ T' H' st (s.trans s')
  | .ret _ _, h => fun v σ T' H' st s' => h v σ T' H' st (s.trans s')
  | .retO _ _, h => fun v A σ T' H' st nd off fr vis => h v A σ T' H' st nd off (fun x hx => (fr x hx).trans (s.fr x hx)) (s.vis.trans vis)
/-- with another way on -/
theorem OutOk.on {pn : Option V} {F : Hs} {T : Trs} {H : Hp} {D : Ends} {nx bk ct : L2.St → Hp → Prop} : ∀ {o : Out}, (∀ ρ, o ≠ .nxt ρ) → (∀ ρ, o ≠ .brk ρ) → (∀ ρ, o ≠ .cnt ρ) → OutOk pn F T H D o → OutOk pn F T H { D with nx := nx, bk := bk, ct := ct } o
  | .nxt _, h, _, _, _ => absurd rfl (h _)
  | .brk _, _, h, _, _ => absurd rfl (h _)
  | .cnt _, _, _, h, _ => absurd rfl (h _)
  | .ret _ _, _, _, _, h => h
  | .retO _ _, _, _, _, h => h
def sNext : XS := fun ρ => some (.nxt ρ)
def sCont : XS := fun ρ => some (.cnt ρ)
def sBreak : XS := fun ρ => some (.brk ρ)
def sSeq (x y : XS) : XS := fun ρ => (x ρ).bind fun o => match o with
  | .nxt ρ1 => y ρ1
  | o => some o
def sRet (w : XW) : XS := fun ρ => (w ρ).bind fun x => some (.ret x.1 x.2)
def sRetN : XS := fun ρ => some (.ret .none ρ)
def sRetO (w : XWO) : XS := fun ρ => (w ρ).bind fun x => some (.retO x.1 x.2)
def sIf (c : XWT) (x y : XS) : XS := fun ρ => (c ρ).bind fun k => if k.1 = true then x k.2 else y k.2
def sAsg (g : XG) (w : XW) : XS := fun ρ => (w ρ).bind fun x => (g x.1 x.2).bind fun ρ1 => some (.nxt ρ1)
def sOwn (i : Nat) (w : XWO) : XS := fun ρ => (w ρ).bind fun x => if i < x.2.length then some (.nxt (x.2.set i (.own x.1))) else none
def sDrop (w : XW) : XS := fun ρ => (w ρ).bind fun x => some (.nxt x.2)
def toSl : Cel → Sl
  | .dat d => .dat d
  | .sub ds => .own (ds.map Cel.dat)
def two : List Cel → Option (Cel × Cel)
  | [c, e] => some (c, e)
  | _ => none
theorem two_eq {cs : List Cel} {c e : Cel} (h : two cs = some (c, e)) : cs = [c, e] := by
  unfold two at h
  split at h
  · cases h; rfl
  · cases h
def sPar (i j : Nat) (as : XWC) : XS := fun ρ => (as ρ).bind fun x => (two x.1).bind fun c => if i < x.2.length ∧ j < x.2.length then some (.nxt ((x.2.set i (toSl c.1)).set j (toSl c.2))) else none
section
variable {te : TE} {t u : TS} {ct : TT} {x y : XS} {w : XW} {c : XWT}
theorem ss_next : SS tNext sNext := fun pn F T H σ ρ o D st e q => by cases e; exact q σ T H st Stp.refl
theorem ss_cont : SS tCont sCont := fun pn F T H σ ρ o D st e q => by cases e; exact q σ T H st Stp.refl
theorem ss_break : SS tBreak sBreak := fun pn F T H σ ρ o D st e q => by cases e; exact q σ T H st Stp.refl
theorem ss_seq (hx : SS t x) (hy : SS u y) : SS (tSeq t u) (sSeq x y) := fun pn F T H σ ρ o D st e q => by
  obtain ⟨o1, h1, e⟩ := bind_some e
  cases o1 with
  | nxt ρ1 => exact hx pn F T H σ ρ _ { D with nx := u D } st h1 fun σ2 T2 H2 st2 s2 => hy pn F T2 H2 σ2 ρ1 o D st2 e (q.step s2)
  | ret d ρ1 => cases e; exact hx pn F T H σ ρ _ { D with nx := u D } st h1 q
  | retO d ρ1 => cases e; exact hx pn F T H σ ρ _ { D with nx := u D } st h1 q
  | brk ρ1 => cases e; exact hx pn F T H σ ρ _ { D with nx := u D } st h1 q
  | cnt ρ1 => cases e; exact hx pn F T H σ ρ _ { D with nx := u D } st h1 q
theorem ss_ret (h : SW te w) : SS (tRet te) (sRet w) := fun pn F T H σ ρ o D st e q => by
  obtain ⟨⟨d, ρ1⟩, h1, e⟩ := bind_some e
  cases e
  exact h pn F T H σ ρ d ρ1 st h1 _ fun v T' H' st' s' rv => q v σ T' H' st' s' rv
theorem ss_retN : SS tRetN sRetN := fun pn F T H σ ρ o D st e q => by cases e; exact q .non σ T H st Stp.refl .non
theorem ss_retO {w : XWO} (h : SWO te w) : SS (tRet te) (sRetO w) := fun pn F T H σ ρ o D st e q => by
  obtain ⟨⟨d, ρ1⟩, h1, e⟩ := bind_some e
  cases e
  exact h pn F T H σ ρ d ρ1 st h1 _ fun v A T' H' st' nd off fr vis ow => q v A σ T' H' st' nd off fr vis ow
theorem ss_if (hc : SWT ct c) (hx : SS t x) (hy : SS u y) : SS (tIfS ct t u) (sIf c x y) := fun pn F T H σ ρ o D st e q => by
  obtain ⟨⟨k, ρ1⟩, h1, e⟩ := bind_some e
  refine hc pn F T H σ ρ k ρ1 st h1 _ fun T1 H1 st1 s1 => ?_
  cases k with
  | true => exact hx pn F T1 H1 σ ρ1 o D st1 e (q.step s1)
  | false => exact hy pn F T1 H1 σ ρ1 o D st1 e (q.step s1)
theorem ss_asg {g : TG} {xg : XG} {vs : List Nat} (hg : SG false g xg vs) (h : SW te w) : SS (tAsg te g) (sAsg xg w) := fun pn F T H σ ρ o D st e q => by
  obtain ⟨⟨d, ρ1⟩, h1, e⟩ := bind_some e
  obtain ⟨ρ2, h2, e⟩ := bind_some e
  cases e
  exact h pn F T H σ ρ d ρ1 st h1 _ fun v T1 H1 st1 s1 rv => hg pn F T1 H1 σ v d ρ1 ρ2 st1 h2 (.inl rv) _ fun σ' T' st' s' _ => q σ' T' H1 st' (s1.trans s')
theorem ss_own {i : Nat} {w : XWO} (hi : i ≠ 0) (h : SWO te w) : SS (tAsg te (gName i)) (sOwn i w) := fun pn F T H σ ρ o D st e q => by
  obtain ⟨⟨cs, ρ1⟩, h1, e⟩ := bind_some e
  by_cases c : i < ρ1.length
  · rw [if_pos c] at e
    cases e
    refine h pn F T H σ ρ cs ρ1 st h1 _ fun v A T' H' st' nd off fr vis ow => ?_
    obtain ⟨st2, vis2⟩ := st'.own hi c ow nd off
    exact q _ _ H' st2 ⟨fr, vis.trans vis2⟩
  · rw [if_neg c] at e; cases e
theorem ss_drop (h : SW te w) : SS (tDrop te) (sDrop w) := fun pn F T H σ ρ o D st e q => by
  obtain ⟨⟨d, ρ1⟩, h1, e⟩ := bind_some e
  cases e
  exact h pn F T H σ ρ d ρ1 st h1 _ fun v T' H' st' s' rv => q σ T' H' st' s'
/-! a cell goes to a slot -/
theorem StOk.cel {pn : Option V} {F : Hs} {T : Trs} {H : Hp} {σ : L2.St} {ρ : Env} {i : Nat} {v : V} {c : Cel} {B : List Addr} (hi : i ≠ 0) (hl : i < ρ.length) (st : StOk pn (FL F B) T H σ ρ) (nd : B.Nodup) (off : ∀ x ∈ B, ¬ F x) (hc : Cels (hid (SF (FL F B) T) H) H [v] [c] B) :
    ∃ T', StOk pn F T' H (σ.set i (some v)) (ρ.set i (toSl c)) ∧ Ex (hid (SF (FL F B) T) H) (hid (SF F T') H) := by
  cases hc with
  | dat r n =>
    cases n
    rw [FL_nil] at st r ⊢
    obtain ⟨st', s⟩ := st.set hi r
    exact ⟨_, st', s.vis⟩
  | sub hb r n =>
    cases n
    obtain ⟨st', vis⟩ := st.own (i := i) hi hl ⟨_, _, [], rfl, hb, Cels.dats r, rfl⟩ nd off
    exact ⟨_, st', vis⟩
theorem ss_par {i j : Nat} {ts : TA} {as : XWC} (hi : i ≠ 0) (hj : j ≠ 0) (hs : SWC ts as) : SS (tPar i j ts) (sPar i j as) := fun pn F T H σ ρ o D st e q => by
  obtain ⟨⟨cs, ρ1⟩, h1, e⟩ := bind_some e
  obtain ⟨⟨c, d⟩, h2, e⟩ := bind_some e
  have ec : cs = _ := two_eq h2
  subst ec
  · skip
    by_cases hl : i < ρ1.length ∧ j < ρ1.length
    · rw [if_pos hl] at e
      cases e
      refine hs pn F T H σ ρ _ ρ1 st h1 _ fun vs B T1 H1 st1 nd off fr vis hc => ?_
      obtain ⟨v, w, rfl⟩ : ∃ v w, vs = [v, w] := by
        have := hc.length
        match vs, this with
        | [v, w], _ => exact ⟨v, w, rfl⟩
      refine ⟨v, w, rfl, ?_⟩
      -- split the addresses
      have split : ∃ B1 B2, B = B1 ++ B2 ∧ Cels (hid (SF (FL F B) T1) H1) H1 [v] [c] B1 ∧ Cels (hid (SF (FL F B) T1) H1) H1 [w] [d] B2 := by
        cases hc with
        | dat r n => exact ⟨[], B, rfl, .dat r .nil, n⟩
        | sub hb r n => exact ⟨[_], _, rfl, .sub hb r .nil, n⟩
      obtain ⟨B1, B2, rfl, c1, c2⟩ := split
      have eF : FL F (B1 ++ B2) = FL (FL F B2) B1 := by rw [FL_app]; exact FL_perm fun x => by simp [or_comm]
      rw [eF] at st1 c1 c2 vis
      have nds := List.nodup_append.mp nd
      obtain ⟨T2, st2, vis2⟩ := StOk.cel (F := FL F B2) hi hl.1 st1 nds.1 (fun x hx z => z.elim (off x (List.mem_append_left _ hx)) fun z => nds.2.2 x hx x z rfl) c1
      have c2' := c2.mv vis2 fun x hx => (rfl : H1 x = H1 x)
      obtain ⟨T3, st3, vis3⟩ := StOk.cel (F := F) hj (by rw [List.length_set]; exact hl.2) st2 nds.2.1 (fun x hx => off x (List.mem_append_right _ hx)) c2'
      exact q _ T3 H1 st3 ⟨fr, (vis.trans vis2).trans vis3⟩
    · rw [if_neg hl] at e; cases e
end
/-! ### writing to owned lists -/
section
variable {G H : Hp}
theorem Cels.snoc : ∀ {vs : List V} {cs : List Cel} {B : List Addr} {v : V} {d : PD}, Cels G H vs cs B → Rp G v d → Cels G H (vs ++ [v]) (cs ++ [.dat d]) B
  | _, _, _, _, _, .nil, r => .dat r .nil
  | _, _, _, _, _, .dat h c, r => .dat h (c.snoc r)
  | _, _, _, _, _, .sub h1 h2 c, r => .sub h1 h2 (c.snoc r)
theorem Cels.app : ∀ {vs us : List V} {cs : List Cel} {ds : List PD} {B : List Addr}, Cels G H vs cs B → RpAll G us ds → Cels G H (vs ++ us) (cs ++ ds.map Cel.dat) B
  | _, _, _, _, _, .nil, r => Cels.dats r
  | _, _, _, _, _, .dat h c, r => .dat h (c.app r)
  | _, _, _, _, _, .sub h1 h2 c, r => .sub h1 h2 (c.app r)
theorem Cels.ins : ∀ (n : Nat) {vs : List V} {cs : List Cel} {B : List Addr} {v : V} {d : PD}, Cels G H vs cs B → Rp G v d → Cels G H (vs.take n ++ [v] ++ vs.drop n) (cs.take n ++ [.dat d] ++ cs.drop n) B
  | 0, _, _, _, _, _, c, r => by simpa using Cels.dat r c
  | n + 1, _, _, _, _, _, .nil, r => by simpa using Cels.dat r .nil
  | n + 1, _, _, _, _, _, .dat h c, r => by simpa using Cels.dat h (c.ins n r)
  | n + 1, _, _, _, _, _, .sub h1 h2 c, r => by simpa using Cels.sub h1 h2 (c.ins n r)
theorem Cels.set : ∀ (n : Nat) {vs : List V} {cs : List Cel} {B : List Addr} {v : V} {d d0 : PD}, Cels G H vs cs B → cs[n]? = some (.dat d0) → Rp G v d → Cels G H (vs.set n v) (cs.set n (.dat d)) B
  | _, _, _, _, _, _, _, .nil, h, _ => by simp at h
  | 0, _, _, _, _, _, _, .dat _ c, _, r => by simpa using Cels.dat r c
  | 0, _, _, _, _, _, _, .sub _ _ c, h, r => by simp at h
  | n + 1, _, _, _, _, _, _, .dat h0 c, h, r => by simpa using Cels.dat h0 (c.set n (by simpa using h) r)
  | n + 1, _, _, _, _, _, _, .sub h1 h2 c, h, r => by simpa using Cels.sub h1 h2 (c.set n (by simpa using h) r)
theorem Cels.erase : ∀ (n : Nat) {vs : List V} {cs : List Cel} {B : List Addr} {d0 : PD}, Cels G H vs cs B → cs[n]? = some (.dat d0) → Cels G H (vs.eraseIdx n) (cs.eraseIdx n) B ∧ ∃ v, vs[n]? = some v ∧ Rp G v d0
  | _, _, _, _, _, .nil, h => by simp at h
  | 0, _, _, _, _, .dat r c, h => by
    cases Option.some.inj (show some (Cel.dat _) = some (Cel.dat _) from h)
    exact ⟨by simpa using c, _, rfl, r⟩
  | 0, _, _, _, _, .sub _ _ c, h => by simp at h
  | n + 1, _, _, _, _, .dat h0 c, h => by
    obtain ⟨c1, v, e, r⟩ := c.erase n (by simpa using h)
    exact ⟨by simpa using Cels.dat h0 c1, v, by simpa using e, r⟩
  | n + 1, _, _, _, _, .sub h1 h2 c, h => by
    obtain ⟨c1, v, e, r⟩ := c.erase n (by simpa using h)
    exact ⟨by simpa using Cels.sub h1 h2 c1, v, by simpa using e, r⟩
/-- the owned list within: where it is, and the whole with it written -/
theorem Cels.inner : ∀ (n : Nat) {vs : List V} {cs : List Cel} {B : List Addr} {ds : List PD}, Cels G H vs cs B → B.Nodup → cs[n]? = some (.sub ds) → ∃ b ws, vs[n]? = some (.ref b) ∧ b ∈ B ∧ H b = some (.lst ws) ∧ RpAll G ws ds ∧
    ∀ (ws' : List V) (ds' : List PD), RpAll G ws' ds' → Cels G (upd H b (.lst ws')) vs (cs.set n (.sub ds')) B
  | _, _, _, _, _, .nil, _, h => by simp at h
  | 0, _, _, _, _, .dat _ c, _, h => by simp at h
  | 0, _, _, _, _, .sub (b := b) hb r c, nd, h => by
    cases Option.some.inj (show some (Cel.sub _) = some (Cel.sub _) from h)
    refine ⟨_, _, rfl, List.mem_cons_self .., hb, r, fun ws' ds' r' => ?_⟩
    have hn := (List.nodup_cons.mp nd).1
    simpa using Cels.sub upd_same r' (c.mv (Ex.refl _) fun x hx => upd_ne fun z => hn (by rw [← z]; exact hx))
  | n + 1, _, _, _, _, .dat h0 c, nd, h => by
    obtain ⟨b, ws, e1, e2, e3, e4, f⟩ := c.inner n nd (by simpa using h)
    exact ⟨b, ws, by simpa using e1, e2, e3, e4, fun ws' ds' r' => by simpa using Cels.dat h0 (f ws' ds' r')⟩
  | n + 1, _, _, _, _, .sub (b := b0) h1 h2 c, nd, h => by
    obtain ⟨hn, nd'⟩ := List.nodup_cons.mp nd
    obtain ⟨b, ws, e1, e2, e3, e4, f⟩ := c.inner n nd' (by simpa using h)
    exact ⟨b, ws, by simpa using e1, List.mem_cons_of_mem _ e2, e3, e4, fun ws' ds' r' => by simpa using Cels.sub (by rw [upd_ne fun z => hn (by rw [z]; exact e2)]; exact h1) h2 (f ws' ds' r')⟩
end
section
variable {pn : Option V} {F : Hs} {T : Trs} {H : Hp} {σ : L2.St} {ρ : Env}
/-- an owned list within an owned list is written -/
theorem StOk.writeSub (st : StOk pn F T H σ ρ) {i n : Nat} {cs : List Cel} {ds ds' : List PD} (hi : ρ[i]? = some (.own cs)) (hn : cs[n]? = some (.sub ds)) : ∃ a vs b ws, σ[i]? = some (some (.ref a)) ∧ H a = some (.lst vs) ∧ vs[n]? = some (.ref b) ∧ vs.length = cs.length ∧ H b = some (.lst ws) ∧ RpAll (hid (SF F T) H) ws ds ∧
    ∀ ws' ds', RpAll (hid (SF F T) H) ws' ds' → StOk pn F T (upd H b (.lst ws')) σ (ρ.set i (.own (cs.set n (.sub ds')))) ∧ Stp F T H T (upd H b (.lst ws')) := by
  obtain ⟨a, vs, B, h1, h2, h3, h4⟩ := st.at_own hi
  have ndA := st.nd i
  rw [h4] at ndA
  obtain ⟨haB, ndB⟩ := List.nodup_cons.mp ndA
  obtain ⟨b, ws, e1, e2, e3, e4, f⟩ := h3.inner n ndB hn
  refine ⟨a, vs, b, ws, h1, h2, e1, h3.length, e3, e4, fun ws' ds' r' => ?_⟩
  have hb : b ∈ T i := by rw [h4]; exact List.mem_cons_of_mem _ e2
  have hS : SF F T b := .inr ⟨i, hb⟩
  have vis : Ex (hid (SF F T) H) (hid (SF F T) (upd H b (.lst ws'))) := fun x o h => by
    obtain ⟨c, h⟩ := hid_some h
    rw [hid_out c, upd_ne (fun z => c (by rw [z]; exact hS))]
    exact h
  have ne : ∀ x, x ≠ b → upd H b (.lst ws') x = H x := fun x h => upd_ne h
  refine ⟨⟨by rw [List.length_set]; exact st.len, fun x h => ?_, st.off, st.dis, st.nd, fun j hj => st.out j (by rw [List.length_set] at hj; exact hj), fun j q hq => ?_, st.pin⟩, ⟨fun x h => ne x fun z => st.off i b hb (by rw [← z]; exact h), vis⟩⟩
  · rw [ne x fun z => st.off i b hb (by rw [← z]; exact h)]
    exact st.al x h
  · by_cases c : i = j
    · subst c
      have hl : i < ρ.length := (List.getElem?_eq_some_iff.mp hi).1
      rw [List.getElem?_set_self hl] at hq
      cases hq
      refine ⟨_, h1, .ref a, rfl, a, vs, B, rfl, by rw [ne a fun z => haB (by rw [z]; exact e2)]; exact h2, (f ws' ds' r').mv vis fun x _ => rfl, h4⟩
    · rw [List.getElem?_set_ne c] at hq
      obtain ⟨o', h5, h6⟩ := st.sl j q hq
      exact ⟨o', h5, h6.mv vis fun x hx => ne x fun z => c (st.dis i j b hb (by rw [← z]; exact hx))⟩
end
def sApp (i : Nat) (a : XW) : XS := fun ρ => (ownAt ρ i).bind fun _ => (a ρ).bind fun x => (ownAt x.2 i).bind fun cs => if cs.length < 100000 then some (.nxt (x.2.set i (.own (cs ++ [.dat x.1])))) else none
def sExt (i : Nat) (a : XW) : XS := fun ρ => (ownAt ρ i).bind fun _ => (a ρ).bind fun x => (asList x.1).bind fun ds => (ownAt x.2 i).bind fun cs => if cs.length + ds.length ≤ 100000 then some (.nxt (x.2.set i (.own (cs ++ ds.map Cel.dat)))) else none
def isI : PD → Option Int
  | .int i => some i
  | _ => none
theorem isI_eq {d : PD} {i : Int} (h : isI d = some i) : d = .int i := by
  cases d with
  | int c => cases h; rfl
  | _ => cases h
def insA : List PD → Option (Int × PD)
  | [.int k, d] => some (k, d)
  | _ => none
theorem insA_eq {ds : List PD} {k : Int} {d : PD} (h : insA ds = some (k, d)) : ds = [.int k, d] := by
  unfold insA at h
  split at h
  · cases h; rfl
  · cases h
def sIns (i : Nat) (as : XWA) : XS := fun ρ => (ownAt ρ i).bind fun _ => (as ρ).bind fun x => (insA x.1).bind fun kd => (ownAt x.2 i).bind fun cs => if cs.length < 100000 ∧ 0 ≤ kd.1 ∧ kd.1 < 2 ^ 63 then some (.nxt (x.2.set i (.own (cs.take kd.1.toNat ++ [.dat kd.2] ++ cs.drop kd.1.toNat)))) else none
def datAt (cs : List Cel) (n : Nat) : Option PD := match cs[n]? with
  | some (.dat d) => some d
  | _ => none
theorem datAt_eq {cs : List Cel} {n : Nat} {d : PD} (h : datAt cs n = some d) : cs[n]? = some (.dat d) := by
  unfold datAt at h
  split at h
  · rename_i e; cases h; exact e
  · cases h
def subAt (cs : List Cel) (n : Nat) : Option (List PD) := match cs[n]? with
  | some (.sub d) => some d
  | _ => none
theorem subAt_eq {cs : List Cel} {n : Nat} {d : List PD} (h : subAt cs n = some d) : cs[n]? = some (.sub d) := by
  unfold subAt at h
  split at h
  · rename_i e; cases h; exact e
  · cases h
def wPop (i : Nat) (a : XW) : XW := fun ρ => (ownAt ρ i).bind fun _ => (a ρ).bind fun x => (isI x.1).bind fun k => (ownAt x.2 i).bind fun cs => if -(2 ^ 63) ≤ k ∧ k < 2 ^ 63 then (ixN cs.length k).bind fun n => (datAt cs n).bind fun d => some (d, x.2.set i (.own (cs.eraseIdx n))) else none
/-- x[k] = e -/
def sSet (i : Nat) (k : XE) (a : XW) : XS := fun ρ => (a ρ).bind fun x => (ownAt x.2 i).bind fun cs => ((k (vw x.2)).bind isI).bind fun k => (ixN cs.length k).bind fun n => (datAt cs n).bind fun _ => some (.nxt (x.2.set i (.own (cs.set n (.dat x.1)))))
/-- x[k][j] = e -/
def sSetS (i : Nat) (k j : XE) (a : XW) : XS := fun ρ => (a ρ).bind fun x => (ownAt x.2 i).bind fun cs => ((k (vw x.2)).bind isI).bind fun k => (ixN cs.length k).bind fun n => (subAt cs n).bind fun ds => ((j (vw x.2)).bind isI).bind fun j => (ixN ds.length j).bind fun m => some (.nxt (x.2.set i (.own (cs.set n (.sub (ds.set m x.1))))))
/-- x[k].pop(j), the item dropped -/
def sPopS (i : Nat) (k j : XE) : XS := fun ρ => (ownAt ρ i).bind fun cs => ((k (vw ρ)).bind isI).bind fun k => (ixN cs.length k).bind fun n => (subAt cs n).bind fun ds => ((j (vw ρ)).bind isI).bind fun j => if -(2 ^ 63) ≤ j ∧ j < 2 ^ 63 then (ixN ds.length j).bind fun m => some (.nxt (ρ.set i (.own (cs.set n (.sub (ds.eraseIdx m)))))) else none
section
variable {te tk tj : TE} {w : XW} {k j : XE}
theorem RpAll.erase {G : Hp} : ∀ {vs : List V} {ds : List PD} (n : Nat), RpAll G vs ds → RpAll G (vs.eraseIdx n) (ds.eraseIdx n)
  | _, _, _, .nil => by simpa using RpAll.nil
  | _, _, 0, .cons _ r => by simpa using r
  | _, _, n + 1, .cons h r => by simpa using RpAll.cons h (r.erase n)
theorem ss_app {i : Nat} (h : SW te w) : SS (tDrop (tBM K "list" rAppend (tVar i) (tCons te tNil))) (sApp i w) := fun pn F T H σ ρ o D st e q => by
  obtain ⟨c0, h0, e⟩ := bind_some e
  obtain ⟨⟨d, ρ1⟩, h1, e⟩ := bind_some e
  obtain ⟨cs, h2, e⟩ := bind_some e
  by_cases hl : cs.length < 100000
  · rw [if_pos hl] at e
    cases e
    obtain ⟨a, vs, B, ha, hv, _⟩ := st.at_own (ownAt_eq h0)
    refine ⟨.ref a, ha, .inl ⟨rfl, _, .inl (.inl hv)⟩, h pn F T H σ ρ d ρ1 st h1 _ fun v T1 H1 st1 s1 rv => ?_⟩
    obtain ⟨a', vs', B', ha', hv', hc', hT⟩ := st1.at_own (ownAt_eq h2)
    have ea : a' = a := by rw [ha'] at ha; cases ha; rfl
    subst ea
    obtain ⟨st2, s2⟩ := st1.write (ownAt_eq h2) hT ha' (hc'.snoc rv)
    exact ⟨a', vs', v, rfl, rfl, hv', by rw [hc'.length]; exact Evl.sz_lt hl, q σ T1 _ st2 (s1.trans s2)⟩
  · rw [if_neg hl] at e; cases e
theorem ss_ext {i : Nat} (h : SW te w) : SS (tDrop (tBM K "list" rExtend (tVar i) (tCons te tNil))) (sExt i w) := fun pn F T H σ ρ o D st e q => by
  obtain ⟨c0, h0, e⟩ := bind_some e
  obtain ⟨⟨d, ρ1⟩, h1, e⟩ := bind_some e
  obtain ⟨ds, hd, e⟩ := bind_some e
  obtain ⟨cs, h2, e⟩ := bind_some e
  by_cases hl : cs.length + ds.length ≤ 100000
  · rw [if_pos hl] at e
    cases e
    have ed : d = .list ds := asList_eq hd
    subst ed
    obtain ⟨a, vs, B, ha, hv, _⟩ := st.at_own (ownAt_eq h0)
    refine ⟨.ref a, ha, .inl ⟨rfl, _, .inl (.inl hv)⟩, h pn F T H σ ρ _ ρ1 st h1 _ fun v T1 H1 st1 s1 rv => ?_⟩
    obtain ⟨a', vs', B', ha', hv', hc', hT⟩ := st1.at_own (ownAt_eq h2)
    have ea : a' = a := by rw [ha'] at ha; cases ha; rfl
    subst ea
    cases rv with
    | lst hb rb =>
      obtain ⟨st2, s2⟩ := st1.write (ownAt_eq h2) hT ha' (hc'.app rb)
      exact ⟨a', _, vs', _, rfl, rfl, hv', hid_le _ _ hb, by rw [hc'.length, rb.length]; exact Evl.sz_of hl, q σ T1 _ st2 (s1.trans s2)⟩
  · rw [if_neg hl] at e; cases e
abbrev rInsQ : V → List V → Hp → VK → Prop := fun x vs H Q => ∃ (l : Addr) (xs : List V) (i : Int) (y : V), x = .ref l ∧ vs = [.int i, y] ∧ H l = some (.lst xs) ∧ xs.length < sizeLine ∧ 0 ≤ i ∧ i < 2 ^ 63 ∧
  Q .non (upd H l (.lst (xs.take i.toNat ++ [y] ++ xs.drop i.toNat)))
theorem ss_ins {i : Nat} {ts : TA} {as : XWA} (h : SWA ts as) : SS (tDrop (tBM K "list" rInsQ (tVar i) ts)) (sIns i as) := fun pn F T H σ ρ o D st e q => by
  obtain ⟨c0, h0, e⟩ := bind_some e
  obtain ⟨⟨xs, ρ1⟩, h1, e⟩ := bind_some e
  obtain ⟨⟨kk, d⟩, hd, e⟩ := bind_some e
  obtain ⟨cs, h2, e⟩ := bind_some e
  by_cases hl : cs.length < 100000 ∧ 0 ≤ kk ∧ kk < 2 ^ 63
  · rw [if_pos hl] at e
    cases e
    have ed : xs = _ := insA_eq hd
    subst ed
    obtain ⟨a, vs, B, ha, hv, _⟩ := st.at_own (ownAt_eq h0)
    refine ⟨.ref a, ha, .inl ⟨rfl, _, .inl (.inl hv)⟩, h pn F T H σ ρ _ ρ1 st h1 _ fun us T1 H1 st1 s1 rv => ?_⟩
    obtain ⟨a', vs', B', ha', hv', hc', hT⟩ := st1.at_own (ownAt_eq h2)
    have ea : a' = a := by rw [ha'] at ha; cases ha; rfl
    subst ea
    cases rv with
    | cons g1 t =>
      cases t with
      | cons g2 t =>
        cases t
        cases g1
        obtain ⟨st2, s2⟩ := st1.write (ownAt_eq h2) hT ha' (hc'.ins kk.toNat g2)
        exact ⟨a', vs', kk, _, rfl, rfl, hv', by rw [hc'.length]; exact Evl.sz_lt hl.1, hl.2.1, hl.2.2, q σ T1 _ st2 (s1.trans s2)⟩
  · rw [if_neg hl] at e; cases e
theorem sw_pop {i : Nat} (h : SW te w) : SW (tBM K "list" rPopAt (tVar i) (tCons te tNil)) (wPop i w) := fun pn F T H σ ρ d ρ' st e Q q => by
  obtain ⟨c0, h0, e⟩ := bind_some e
  obtain ⟨⟨dk, ρ1⟩, h1, e⟩ := bind_some e
  obtain ⟨kk, hk, e⟩ := bind_some e
  obtain ⟨cs, h2, e⟩ := bind_some e
  by_cases hl : -(2 ^ 63) ≤ kk ∧ kk < 2 ^ 63
  · rw [if_pos hl] at e
    obtain ⟨n, hn, e⟩ := bind_some e
    obtain ⟨d1, hd, e⟩ := bind_some e
    cases e
    have ed : dk = _ := isI_eq hk
    subst ed
    obtain ⟨a, vs, B, ha, hv, _⟩ := st.at_own (ownAt_eq h0)
    refine ⟨.ref a, ha, .inl ⟨rfl, _, .inl (.inl hv)⟩, h pn F T H σ ρ _ ρ1 st h1 _ fun v T1 H1 st1 s1 rv => ?_⟩
    obtain ⟨a', vs', B', ha', hv', hc', hT⟩ := st1.at_own (ownAt_eq h2)
    have ea : a' = a := by rw [ha'] at ha; cases ha; rfl
    subst ea
    cases rv
    obtain ⟨hc2, y, hy, ry⟩ := hc'.erase n (datAt_eq hd)
    obtain ⟨st2, s2⟩ := st1.write (ownAt_eq h2) hT ha' hc2
    refine ⟨a', vs', kk, n, y, rfl, rfl, hv', hl.1, hl.2, (ixN_seq (by rw [hc'.length]; exact hn)).1, hy, q y T1 _ st2 (s1.trans s2) (ry.ex s2.vis)⟩
  · rw [if_neg hl] at e; cases e
theorem ss_set {i : Nat} (hk : SE tk k) (h : SW te w) : SS (tAsg te (gSub (tVar i) tk rSetL)) (sSet i k w) := fun pn F T H σ ρ o D st e q => by
  obtain ⟨⟨d, ρ1⟩, h1, e⟩ := bind_some e
  obtain ⟨cs, h2, e⟩ := bind_some e
  obtain ⟨kk, h3, e⟩ := bind_some e
  obtain ⟨dk, h3, h4⟩ := bind_some h3
  obtain ⟨n, hn, e⟩ := bind_some e
  obtain ⟨d0, hd, e⟩ := bind_some e
  cases e
  have ed : dk = _ := isI_eq h4
  subst ed
  refine h pn F T H σ ρ d ρ1 st h1 _ fun v T1 H1 st1 s1 rv => ?_
  obtain ⟨a', vs', B', ha', hv', hc', hT⟩ := st1.at_own (ownAt_eq h2)
  refine ⟨.ref a', ha', hk _ _ h3 F σ H1 st1.al st1.vw _ fun vk H2 e2 rk => ?_⟩
  cases rk
  have st2 := st1.ex e2
  have s2 : Stp F T1 H1 T1 H2 := Stp.ex st1.al e2
  obtain ⟨a2, vs2, B2, ha2, hv2, hc2, hT2⟩ := st2.at_own (ownAt_eq h2)
  have ea : a2 = a' := by rw [ha2] at ha'; cases ha'; rfl
  subst ea
  obtain ⟨st3, s3⟩ := st2.write (ownAt_eq h2) hT2 ha2 (hc2.set n (datAt_eq hd) (rv.ex s2.vis))
  exact ⟨a2, vs2, kk, n, rfl, rfl, hv2, by rw [hc2.length]; exact hn, q σ T1 _ st3 ((s1.trans s2).trans s3)⟩
/-- reading x[k], a list within -/
theorem ix_sub {pn : Option V} {F : Hs} {T : Trs} {H : Hp} {σ : L2.St} {ρ : Env} (st : StOk pn F T H σ ρ) {i n : Nat} {cs : List Cel} {ds : List PD} {kk : Int} (hi : ρ[i]? = some (.own cs)) (hn : ixN cs.length kk = some n) (hs : cs[n]? = some (.sub ds)) (hk : SE tk k) (h3 : k (vw ρ) = some (.int kk)) {Q : VK}
    (q : ∀ b H2, Ex H H2 → (∃ a vs, σ[i]? = some (some (.ref a)) ∧ H2 a = some (.lst vs) ∧ vs[n]? = some (.ref b)) → Q (.ref b) H2) : tOp (rIx K) (tVar i) tk σ H Q := by
  obtain ⟨a, vs, b, ws, g1, g2, g3, g4, g5, g6, f⟩ := st.writeSub (ds' := ds) hi hs
  refine ⟨.ref a, g1, hk _ _ h3 F σ H st.al st.vw _ fun vk H2 e2 rk => ?_⟩
  cases rk
  refine .inl ⟨a, vs, kk, .ref b, rfl, rfl, .inl (.inl (e2 _ _ g2)), ?_, q b H2 e2 ⟨a, vs, g1, e2 _ _ g2, g3⟩⟩
  unfold atI
  rw [g4, hn]
  exact g3
theorem ss_setS {i : Nat} (hk : SE tk k) (hj : SE tj j) (h : SW te w) : SS (tAsg te (gSub (tOp (rIx K) (tVar i) tk) tj rSetL)) (sSetS i k j w) := fun pn F T H σ ρ o D st e q => by
  obtain ⟨⟨d, ρ1⟩, h1, e⟩ := bind_some e
  obtain ⟨cs, h2, e⟩ := bind_some e
  obtain ⟨kk, h3, e⟩ := bind_some e
  obtain ⟨dk, h3, h4⟩ := bind_some h3
  obtain ⟨n, hn, e⟩ := bind_some e
  obtain ⟨ds, hd, e⟩ := bind_some e
  obtain ⟨jj, h5, e⟩ := bind_some e
  obtain ⟨dj, h5, h6⟩ := bind_some h5
  obtain ⟨m, hm, e⟩ := bind_some e
  cases e
  have ed : dk = _ := isI_eq h4
  subst ed
  have ed : dj = _ := isI_eq h6
  subst ed
  refine h pn F T H σ ρ d ρ1 st h1 _ fun v T1 H1 st1 s1 rv => ?_
  refine ix_sub st1 (ownAt_eq h2) hn (subAt_eq hd) hk h3 fun b H2 e2 hb => ?_
  have st2 := st1.ex e2
  have s2 : Stp F T1 H1 T1 H2 := Stp.ex st1.al e2
  refine hj _ _ h5 F σ H2 st2.al st2.vw _ fun vj H3 e3 rj => ?_
  cases rj
  have st3 := st2.ex e3
  have s3 : Stp F T1 H2 T1 H3 := Stp.ex st2.al e3
  obtain ⟨a, vs, b', ws, g1, g2, g3, g4, g5, g6, f⟩ := st3.writeSub (ds' := ds) (ownAt_eq h2) (subAt_eq hd)
  obtain ⟨a2, vs2, k1, k2, k3⟩ := hb
  have ea : a2 = a := by rw [k1] at g1; cases g1; rfl
  subst ea
  have ev : vs2 = vs := by have := e3 _ _ k2; rw [this] at g2; cases g2; rfl
  subst ev
  have eb : b' = b := by rw [k3] at g3; cases g3; rfl
  subst eb
  obtain ⟨st4, s4⟩ := f (ws.set m v) (ds.set m d) (g6.set m ((rv.ex s2.vis).ex s3.vis))
  exact ⟨b', ws, jj, m, rfl, rfl, g5, by rw [g6.length]; exact hm, q σ T1 _ st4 (((s1.trans s2).trans s3).trans s4)⟩
theorem ss_popS {i : Nat} (hk : SE tk k) (hj : SE tj j) : SS (tDrop (tBM K "list" rPopAt (tOp (rIx K) (tVar i) tk) (tCons tj tNil))) (sPopS i k j) := fun pn F T H σ ρ o D st e q => by
  obtain ⟨cs, h2, e⟩ := bind_some e
  obtain ⟨kk, h3, e⟩ := bind_some e
  obtain ⟨dk, h3, h4⟩ := bind_some h3
  obtain ⟨n, hn, e⟩ := bind_some e
  obtain ⟨ds, hd, e⟩ := bind_some e
  obtain ⟨jj, h5, e⟩ := bind_some e
  obtain ⟨dj, h5, h6⟩ := bind_some h5
  by_cases hl : -(2 ^ 63) ≤ jj ∧ jj < 2 ^ 63
  · rw [if_pos hl] at e
    obtain ⟨m, hm, e⟩ := bind_some e
    cases e
    have ed : dk = _ := isI_eq h4
    subst ed
    have ed : dj = _ := isI_eq h6
    subst ed
    refine ix_sub st (ownAt_eq h2) hn (subAt_eq hd) hk h3 fun b H2 e2 hb => ?_
    have st2 := st.ex e2
    have s2 : Stp F T H T H2 := Stp.ex st.al e2
    obtain ⟨a, vs, b', ws, g1, g2, g3, g4, g5, g6, f⟩ := st2.writeSub (ds' := ds) (ownAt_eq h2) (subAt_eq hd)
    obtain ⟨a2, vs2, k1, k2, k3⟩ := hb
    have ea : a2 = a := by rw [k1] at g1; cases g1; rfl
    subst ea
    have ev : vs2 = vs := by rw [k2] at g2; cases g2; rfl
    subst ev
    have eb : b' = b := by rw [k3] at g3; cases g3; rfl
    subst eb
    refine ⟨.inl ⟨rfl, _, .inl (.inl g5)⟩, hj _ _ h5 F σ H2 st2.al st2.vw _ fun vj H3 e3 rj => ?_⟩
    cases rj
    have st3 := st2.ex e3
    have s3 : Stp F T H2 T H3 := Stp.ex st2.al e3
    clear f
    obtain ⟨a7, vs7, b7, ws7, u1, u2, u3, u4, u5, u6, f7⟩ := st3.writeSub (ds' := ds) (ownAt_eq h2) (subAt_eq hd)
    have ea : a7 = a2 := by rw [k1] at u1; cases u1; rfl
    subst ea
    have ev : vs7 = vs2 := by have := e3 _ _ k2; rw [this] at u2; cases u2; rfl
    subst ev
    have eb : b7 = b' := by rw [k3] at u3; cases u3; rfl
    subst eb
    obtain ⟨st4, s4⟩ := f7 (ws7.eraseIdx m) (ds.eraseIdx m) (u6.erase m)
    have hm' : ixN ws7.length jj = some m := by rw [u6.length]; exact hm
    obtain ⟨q1, q2, _, _⟩ := ixN_seq hm'
    exact ⟨b7, ws7, jj, m, ws7[m], rfl, rfl, u5, hl.1, hl.2, q1, List.getElem?_eq_getElem q2, q σ T _ st4 ((s2.trans s3).trans s4)⟩
  · rw [if_neg hl] at e; cases e
end
end Uv

namespace Uv
open PySem PySem.Spec PyProof.Rows L2
open Evl (Ex)
variable [kk : KK]
/-! ### loops -/
def forGo (g : XG) (b : XS) : List PD → Env → Option Out
  | [], ρ => some (.nxt ρ)
  | x :: xs, ρ => (g x ρ).bind fun ρ1 => (b ρ1).bind fun o => match o with
    | .nxt ρ2 => forGo g b xs ρ2
    | .cnt ρ2 => forGo g b xs ρ2
    | .brk ρ2 => some (.nxt ρ2)
    | .ret d ρ2 => some (.ret d ρ2)
    | .retO d ρ2 => some (.retO d ρ2)
def sFor (src : XWI) (g : XG) (b : XS) : XS := fun ρ => (src ρ).bind fun x => forGo g b x.1 x.2
theorem ss_for {bb : Bool} {wi : TI} {g : TG} {tb : TS} {vs : List Nat} {src : XWI} {xg : XG} {b : XS} (hs : SWI bb wi src) (hg : SG bb g xg vs) (hb : SS tb b) : SS (tFor wi g tb) (sFor src xg b) := fun pn F T H σ ρ o D st e q => by
  obtain ⟨⟨xs, ρ1⟩, h1, e⟩ := bind_some e
  have e : forGo xg b xs ρ1 = some o := e
  refine hs pn F T H σ ρ xs ρ1 st h1 _ fun J T1 H1 st1 s1 wk => ?_
  refine ⟨fun i m σ' H' => m = xs.length - i ∧ i ≤ xs.length ∧ ∃ T' ρ', StOk pn F T' H' σ' ρ' ∧ Stp F T1 H1 T' H' ∧ forGo xg b (xs.drop i) ρ' = some o, ⟨_, rfl, Nat.zero_le _, T1, ρ1, st1, Stp.refl, e⟩, fun i m σ' H' hw => ?_⟩
  obtain ⟨rfl, hi, T', ρ', st', s', hgo⟩ := hw
  obtain ⟨w1, w2⟩ := wk _ H' s'.vis st'.als
  by_cases hlt : i < xs.length
  · obtain ⟨w3, w4⟩ := w2 i _ (List.getElem?_eq_getElem hlt)
    rw [List.drop_eq_getElem_cons hlt] at hgo
    obtain ⟨ρ2, g1, hgo⟩ := bind_some (show (xg xs[i] ρ').bind _ = some o from hgo)
    obtain ⟨o2, b1, hgo⟩ := bind_some hgo
    refine .inr ⟨w3, fun σ2 H2 => ∃ T2 ρ2, StOk pn F T2 H2 σ2 ρ2 ∧ Stp F T1 H1 T2 H2 ∧ forGo xg b (xs.drop (i + 1)) ρ2 = some o, fun σ2 H2 hn => ⟨_, by omega, rfl, hlt, hn⟩, fun v H3 y => ?_⟩
    obtain ⟨e3, rv⟩ := w4 v H3 y
    have st3 := st'.ex e3
    have s3 : Stp F T' H' T' H3 := Stp.ex st'.al e3
    refine hg pn F T' H3 σ' v _ ρ' ρ2 st3 g1 rv _ fun σ4 T4 st4 s4 _ => ?_
    have s14 := (s'.trans s3).trans s4
    cases o2 with
    | nxt ρ5 => exact hb pn F T4 H3 σ4 ρ2 _ _ st4 b1 fun σ5 T5 H5 st5 s5 => ⟨T5, ρ5, st5, s14.trans s5, hgo⟩
    | cnt ρ5 => exact hb pn F T4 H3 σ4 ρ2 _ _ st4 b1 fun σ5 T5 H5 st5 s5 => ⟨T5, ρ5, st5, s14.trans s5, hgo⟩
    | brk ρ5 =>
      cases hgo
      exact hb pn F T4 H3 σ4 ρ2 _ _ st4 b1 fun σ5 T5 H5 st5 s5 => q σ5 T5 H5 st5 (s1.trans (s14.trans s5))
    | ret d ρ5 =>
      cases hgo
      exact hb pn F T4 H3 σ4 ρ2 _ _ st4 b1 (OutOk.on (fun _ z => nomatch z) (fun _ z => nomatch z) (fun _ z => nomatch z) (q.step (s1.trans s14)))
    | retO d ρ5 =>
      cases hgo
      exact hb pn F T4 H3 σ4 ρ2 _ _ st4 b1 (OutOk.on (fun _ z => nomatch z) (fun _ z => nomatch z) (fun _ z => nomatch z) (q.step (s1.trans s14)))
  · have ei : i = xs.length := by omega
    subst ei
    rw [List.drop_length] at hgo
    cases hgo
    exact .inl ⟨w1, q σ' T' H' st' (s1.trans s')⟩
def whGo (c : XWT) (b : XS) : Nat → Env → Option Out
  | 0, _ => none
  | n + 1, ρ => (c ρ).bind fun k => if k.1 = true then (b k.2).bind fun o => match o with
    | .nxt ρ2 => whGo c b n ρ2
    | .cnt ρ2 => whGo c b n ρ2
    | .brk ρ2 => some (.nxt ρ2)
    | .ret d ρ2 => some (.ret d ρ2)
    | .retO d ρ2 => some (.retO d ρ2)
    else some (.nxt k.2)
/-- how often a while may go round -/
def fuel : Nat := 100000
theorem fuel_lt {k : Nat} (h : k < 100000) : k < fuel := h
def sWhile (n : Nat) (c : XWT) (b : XS) : XS := whGo c b n
theorem ss_while {n : Nat} {ct : TT} {tb : TS} {c : XWT} {b : XS} (hc : SWT ct c) (hb : SS tb b) : SS (tWhile ct tb) (sWhile n c b) := fun pn F T H σ ρ o D st e q => by
  refine ⟨fun m σ' H' => ∃ T' ρ', StOk pn F T' H' σ' ρ' ∧ Stp F T H T' H' ∧ whGo c b m ρ' = some o, ⟨n, T, ρ, st, Stp.refl, e⟩, fun m σ' H' hw => ?_⟩
  obtain ⟨T', ρ', st', s', hgo⟩ := hw
  cases m with
  | zero => cases hgo
  | succ m =>
    obtain ⟨⟨k, ρ1⟩, h1, hgo⟩ := bind_some (show (c ρ').bind _ = some o from hgo)
    refine hc pn F T' H' σ' ρ' k ρ1 st' h1 _ fun T1 H1 st1 s1 => ?_
    cases k with
    | false => cases hgo; exact iteF (q σ' T1 H1 st1 (s'.trans s1))
    | true =>
      obtain ⟨o2, b1, hgo⟩ := bind_some (show (b ρ1).bind _ = some o from hgo)
      refine iteT ⟨fun σ2 H2 => ∃ T2 ρ2, StOk pn F T2 H2 σ2 ρ2 ∧ Stp F T H T2 H2 ∧ whGo c b m ρ2 = some o, fun σ2 H2 hn => ⟨m, Nat.lt_succ_self _, hn⟩, ?_⟩
      have s2 := s'.trans s1
      cases o2 with
      | nxt ρ5 => exact hb pn F T1 H1 σ' ρ1 _ _ st1 b1 fun σ5 T5 H5 st5 s5 => ⟨T5, ρ5, st5, s2.trans s5, hgo⟩
      | cnt ρ5 => exact hb pn F T1 H1 σ' ρ1 _ _ st1 b1 fun σ5 T5 H5 st5 s5 => ⟨T5, ρ5, st5, s2.trans s5, hgo⟩
      | brk ρ5 =>
        cases hgo
        exact hb pn F T1 H1 σ' ρ1 _ _ st1 b1 fun σ5 T5 H5 st5 s5 => q σ5 T5 H5 st5 (s2.trans s5)
      | ret d ρ5 =>
        cases hgo
        exact hb pn F T1 H1 σ' ρ1 _ _ st1 b1 (OutOk.on (fun _ z => nomatch z) (fun _ z => nomatch z) (fun _ z => nomatch z) (q.step s2))
      | retO d ρ5 =>
        cases hgo
        exact hb pn F T1 H1 σ' ρ1 _ _ st1 b1 (OutOk.on (fun _ z => nomatch z) (fun _ z => nomatch z) (fun _ z => nomatch z) (q.step s2))
/-! ### an owned list becomes data for good -/
def fzE (ρ : Env) (i : Nat) : Env := match ρ[i]? with
  | some (.own cs) => ρ.set i (.dat (.list (cs.map Cel.pd)))
  | _ => ρ
def sFz (i : Nat) (y : XS) : XS := fun ρ => y (fzE ρ i)
theorem StOk.fz1 {pn : Option V} {F : Hs} {T : Trs} {H : Hp} {σ : L2.St} {ρ : Env} (st : StOk pn F T H σ ρ) (i : Nat) : ∃ T', StOk pn F T' H σ (fzE ρ i) ∧ Stp F T H T' H := by
  unfold fzE
  cases hi : ρ[i]? with
  | none => exact ⟨T, st, Stp.refl⟩
  | some s =>
    cases s with
    | un => exact ⟨T, st, Stp.refl⟩
    | dat d => exact ⟨T, st, Stp.refl⟩
    | own cs =>
      have sub : Ex (hid (SF F T) H) (hid (SF F (setT T i [])) H) := hid_sub SF_setT_nil
      have mem : ∀ j x, x ∈ setT T i [] j → x ∈ T j ∧ j ≠ i := fun j x h => by
        by_cases c : j = i
        · subst c; rw [setT_same] at h; cases h
        · rw [setT_ne c] at h; exact ⟨h, c⟩
      refine ⟨setT T i [], ⟨by rw [List.length_set]; exact st.len, st.al, fun j x h => st.off j x (mem j x h).1, fun j k x h h' => st.dis j k x (mem j x h).1 (mem k x h').1, fun j => ?_, fun j hj => ?_, fun j q hq => ?_, st.pin⟩, ⟨fun _ _ => rfl, sub⟩⟩
      · by_cases c : j = i
        · subst c; rw [setT_same]; exact List.nodup_nil
        · rw [setT_ne c]; exact st.nd j
      · rw [List.length_set] at hj
        by_cases c : j = i
        · subst c; rw [setT_same]
        · rw [setT_ne c]; exact st.out j hj
      · by_cases c : i = j
        · subst c
          have hl : i < ρ.length := (List.getElem?_eq_some_iff.mp hi).1
          rw [List.getElem?_set_self hl] at hq
          cases hq
          obtain ⟨o, h1, v, rfl, ow⟩ := st.sl i _ hi
          rw [setT_same]
          refine ⟨_, h1, rfl, v, rfl, ow.rp sub fun x hx => hid_out ?_⟩
          rintro (z | ⟨j, z⟩)
          · exact st.off i x hx z
          · obtain ⟨z1, z2⟩ := mem j x z
            exact z2 (st.dis j i x z1 hx)
        · rw [List.getElem?_set_ne c] at hq
          obtain ⟨o', h1, h2⟩ := st.sl j q hq
          rw [setT_ne (fun z => c z.symm)]
          exact ⟨o', h1, h2.mv sub fun _ _ => rfl⟩
theorem ss_fz {i : Nat} {t : TS} {y : XS} (h : SS t y) : SS t (sFz i y) := fun pn F T H σ ρ o D st e q => by
  obtain ⟨T', st', s'⟩ := st.fz1 i
  exact h pn F T' H σ _ o D st' e (q.step s')
/-! ### comprehensions that draw -/
def clearE (ρ : Env) : List Nat → Env
  | [] => ρ
  | v :: vs => (clearE ρ vs).set v .un
def keepD : Option Sl → Sl
  | some (.dat d) => .dat d
  | _ => .un
def backE (ρ1 ρ : Env) : List Nat → Env
  | [] => ρ
  | v :: vs => (backE ρ1 ρ vs).set v (keepD ρ1[v]?)
theorem StOk.clear {pn : Option V} {F : Hs} {H : Hp} {σ : L2.St} {ρ : Env} : ∀ {T : Trs} (vs : List Nat), 0 ∉ vs → StOk pn F T H σ ρ → ∃ T', StOk pn F T' H (wipe σ vs) (clearE ρ vs) ∧ Stp F T H T' H
  | T, [], _, st => ⟨T, st, Stp.refl⟩
  | T, v :: vs, h0, st => by
    obtain ⟨T1, st1, s1⟩ := StOk.clear vs (fun z => h0 (List.mem_cons_of_mem _ z)) st
    obtain ⟨st2, s2⟩ := st1.drop (i := v) (o := none) (s := .un) (fun z => h0 (by rw [z]; exact List.mem_cons_self ..)) rfl
    exact ⟨_, st2, s1.trans s2⟩
theorem clearE_len {ρ : Env} : ∀ vs : List Nat, (clearE ρ vs).length = ρ.length
  | [] => rfl
  | v :: vs => by unfold clearE; rw [List.length_set, clearE_len vs]
theorem backE_len {ρ1 ρ : Env} : ∀ vs : List Nat, (backE ρ1 ρ vs).length = ρ.length
  | [] => rfl
  | v :: vs => by unfold backE; rw [List.length_set, backE_len vs]
theorem clearE_off {ρ : Env} {i : Nat} : ∀ {vs : List Nat}, i ∉ vs → (clearE ρ vs)[i]? = ρ[i]?
  | [], _ => rfl
  | v :: vs, h => by
    unfold clearE
    rw [List.getElem?_set_ne (fun z => h (by rw [← z]; exact List.mem_cons_self ..))]
    exact clearE_off fun z => h (List.mem_cons_of_mem _ z)
theorem clearE_at {ρ : Env} {i : Nat} : ∀ {vs : List Nat}, i ∈ vs → i < ρ.length → (clearE ρ vs)[i]? = some .un
  | v :: vs, h, hl => by
    unfold clearE
    by_cases c : v = i
    · subst c; exact List.getElem?_set_self (by rw [clearE_len]; exact hl)
    · rw [List.getElem?_set_ne c]
      exact clearE_at ((List.mem_cons.mp h).resolve_left fun z => c z.symm) hl
theorem backE_off {ρ1 ρ : Env} {i : Nat} : ∀ {vs : List Nat}, i ∉ vs → (backE ρ1 ρ vs)[i]? = ρ[i]?
  | [], _ => rfl
  | v :: vs, h => by
    unfold backE
    rw [List.getElem?_set_ne (fun z => h (by rw [← z]; exact List.mem_cons_self ..))]
    exact backE_off fun z => h (List.mem_cons_of_mem _ z)
theorem backE_at {ρ1 ρ : Env} {i : Nat} : ∀ {vs : List Nat}, i ∈ vs → i < ρ.length → (backE ρ1 ρ vs)[i]? = some (keepD ρ1[i]?)
  | v :: vs, h, hl => by
    unfold backE
    by_cases c : v = i
    · subst c; exact List.getElem?_set_self (by rw [backE_len]; exact hl)
    · rw [List.getElem?_set_ne c]
      exact backE_at ((List.mem_cons.mp h).resolve_left fun z => c z.symm) hl
def wlGo (g : XG) (t : XWT) (e : XW) (vs : List Nat) : List PD → Env → Option (List PD × Env)
  | [], ρ => some ([], ρ)
  | x :: xs, ρ => (g x (clearE ρ vs)).bind fun ρ1 => (t ρ1).bind fun b => if b.1 = true then (e b.2).bind fun d => (wlGo g t e vs xs d.2).bind fun r => some (d.1 :: r.1, r.2) else wlGo g t e vs xs b.2
def wLc (src : XWI) (g : XG) (t : XWT) (e : XW) (vs : List Nat) : XWO := fun ρ => (src ρ).bind fun x => if x.1.length ≤ 40000 then (wlGo g t e vs x.1 x.2).bind fun r => some (r.1.map Cel.dat, backE x.2 r.2 vs) else none
theorem wl_step {g : XG} {t : XWT} {e : XW} {vs : List Nat} {ρ : Env} {x : PD} {xs : List PD} {r : List PD × Env} (h : wlGo g t e vs (x :: xs) ρ = some r) : ∃ ρ1 b ρ2, g x (clearE ρ vs) = some ρ1 ∧ t ρ1 = some (b, ρ2) ∧ ((b = true ∧ ∃ d ρ3 r', e ρ2 = some (d, ρ3) ∧ wlGo g t e vs xs ρ3 = some r' ∧ r = (d :: r'.1, r'.2)) ∨ (b = false ∧ wlGo g t e vs xs ρ2 = some r)) := by
  obtain ⟨ρ1, h1, h⟩ := bind_some (show (g x (clearE ρ vs)).bind _ = some r from h)
  obtain ⟨⟨b, ρ2⟩, h2, h⟩ := bind_some h
  refine ⟨ρ1, b, ρ2, h1, h2, ?_⟩
  cases b with
  | true =>
    obtain ⟨⟨d, ρ3⟩, h3, h⟩ := bind_some (show (e ρ2).bind _ = some r from h)
    obtain ⟨r', h4, h⟩ := bind_some h
    cases h
    exact .inl ⟨rfl, d, ρ3, r', h3, h4, rfl⟩
  | false => exact .inr ⟨rfl, h⟩
theorem swo_lc {b : Bool} {wi : TI} {g : TG} {tt : TT} {te : TE} {vs us : List Nat} {src : XWI} {xg : XG} {t : XWT} {e : XW} (hs : SWI b wi src) (hg : SG b g xg us) (hu : ∀ i ∈ us, i ∈ vs) (h0 : 0 ∉ vs) (ht : SWT tt t) (he : SW te e) : SWO (tLc wi g tt te vs) (wLc src xg t e vs) := fun pn F T H σ ρ cs ρ' st hh Q q => by
  obtain ⟨⟨xs, ρ1⟩, h1, hh⟩ := bind_some hh
  by_cases hz : xs.length ≤ 40000
  · rw [if_pos hz] at hh
    obtain ⟨r, h2, hh⟩ := bind_some hh
    have h2 : wlGo xg t e vs xs ρ1 = some r := h2
    cases hh
    refine hs pn F T H σ ρ xs ρ1 st h1 _ fun J T1 H1 st1 s1 wk D hD => ?_
    have alD : ∀ {H' : Hp} {v : HO}, H' D = some v → H' D ≠ none := fun e z => by rw [e] at z; cases z
    obtain ⟨st2, vis2⟩ := st1.fresh (Ex.new (o := .lst []) hD) hD (by rw [upd_same]; exact fun z => nomatch z)
    obtain ⟨T3, st3, s3⟩ := st2.clear vs h0
    have npF : ∀ x, F x → x ≠ D := fun x hx z => by
      have := st1.al x hx
      rw [z, hD] at this
      exact this rfl
    refine ⟨fun i m H' => m = xs.length - i ∧ i ≤ xs.length ∧ ∃ T' ρ' acc ds1 r', StOk pn (FL F [D]) T' H' (wipe σ vs) (clearE ρ' vs) ∧ ρ'.length = ρ1.length ∧ (∀ x, F x → H' x = H1 x) ∧ Ex (hid (SF F T1) H1) (hid (SF (FL F [D]) T') H') ∧ H' D = some (.lst acc) ∧ acc.length ≤ i ∧ RpAll (hid (SF (FL F [D]) T') H') acc ds1 ∧ wlGo xg t e vs (xs.drop i) ρ' = some r' ∧ r = (ds1 ++ r'.1, r'.2),
      ⟨_, rfl, Nat.zero_le _, T3, ρ1, [], [], r, st3, rfl, fun x hx => upd_ne (npF x hx), vis2.trans s3.vis, upd_same, Nat.le_refl _, .nil, h2, rfl⟩, fun i m H' hw => ?_⟩
    obtain ⟨rfl, hi, T', ρ', acc, ds1, r', st', hlen, fr', vis', hacc, la, ra, hgo, hr⟩ := hw
    obtain ⟨w1, w2⟩ := wk _ H' vis' st'.als
    by_cases hlt : i < xs.length
    · obtain ⟨w3, w4⟩ := w2 i _ (List.getElem?_eq_getElem hlt)
      rw [List.drop_eq_getElem_cons hlt] at hgo
      obtain ⟨ρ4, b4, ρ5, g4, t4, alt⟩ := wl_step hgo
      refine .inr ⟨w3, fun H2 => ∃ T' ρ' acc ds1 r', StOk pn (FL F [D]) T' H2 (wipe σ vs) (clearE ρ' vs) ∧ ρ'.length = ρ1.length ∧ (∀ x, F x → H2 x = H1 x) ∧ Ex (hid (SF F T1) H1) (hid (SF (FL F [D]) T') H2) ∧ H2 D = some (.lst acc) ∧ acc.length ≤ i + 1 ∧ RpAll (hid (SF (FL F [D]) T') H2) acc ds1 ∧ wlGo xg t e vs (xs.drop (i + 1)) ρ' = some r' ∧ r = (ds1 ++ r'.1, r'.2), fun H2 hn => ⟨_, by omega, rfl, hlt, hn⟩, fun v H3 y => ?_⟩
      obtain ⟨e3, rv⟩ := w4 v H3 y
      have st3 := st'.ex e3
      have s3 : Stp (FL F [D]) T' H' T' H3 := Stp.ex st'.al e3
      refine hg pn (FL F [D]) T' H3 (wipe σ vs) v _ _ ρ4 st3 g4 rv _ fun σ4 T4 st4 s4 off => ⟨wipe_off off hu, ?_⟩
      refine ht pn (FL F [D]) T4 H3 σ4 ρ4 b4 ρ5 st4 t4 _ fun T5 H5 st5 s5 => ?_
      have s15 := (s3.trans s4).trans s5
      have hD5 : H5 D = some (.lst acc) := by rw [s15.fr D (.inr (List.mem_cons_self ..))]; exact hacc
      rcases alt with ⟨rfl, d, ρ6, r6, f1, f2, rfl⟩ | ⟨rfl, f2⟩
      · show te σ4 H5 _
        refine he pn (FL F [D]) T5 H5 σ4 ρ5 d ρ6 st5 f1 _ fun z T6 H6 st6 s6 rz => ?_
        have s16 := s15.trans s6
        have hD6 : H6 D = some (.lst acc) := by rw [s6.fr D (.inr (List.mem_cons_self ..))]; exact hD5
        refine ⟨acc, hD6, Evl.sz_lt (by omega), ?_⟩
        have hS : SF (FL F [D]) T6 D := .inl (.inr (List.mem_cons_self ..))
        have vis7 : Ex (hid (SF (FL F [D]) T6) H6) (hid (SF (FL F [D]) T6) (upd H6 D (.lst (acc ++ [z])))) := fun x o h => by
          obtain ⟨c, h⟩ := hid_some h
          rw [hid_out c, upd_ne (fun z => c (by rw [z]; exact hS))]
          exact h
        have st7 : StOk pn (FL F [D]) T6 (upd H6 D (.lst (acc ++ [z]))) σ4 ρ6 := st6.mv vis7 (fun j x hx => upd_ne fun z => st6.off j x hx (by rw [z]; exact .inr (List.mem_cons_self ..))) fun x hx => by
          by_cases c : x = D
          · subst c; rw [upd_same]; exact fun z => nomatch z
          · rw [upd_ne c]; exact st6.al x hx
        obtain ⟨T8, st8, s8⟩ := st7.clear vs h0
        rw [wipe_off off hu] at st8
        have vis8 := vis7.trans s8.vis
        refine ⟨T8, ρ6, acc ++ [z], ds1 ++ [d], r6, st8, ?_, fun x hx => ?_, ((vis'.trans s16.vis).trans vis8), upd_same, by rw [List.length_append]; simpa using la, RpAll.append (ra.ex (s16.vis.trans vis8)) (.cons (rz.ex vis8) .nil), f2, by rw [hr]; simp⟩
        · have l6 := st6.len
          have l5 := off.1
          rw [wipe_length] at l5
          have l1 := st1.len
          omega
        · rw [upd_ne (npF x hx), s16.fr x (.inl hx)]
          exact fr' x hx
      · obtain ⟨T8, st8, s8⟩ := st5.clear vs h0
        rw [wipe_off off hu] at st8
        refine ⟨T8, ρ5, acc, ds1, r', st8, ?_, fun x hx => ?_, (vis'.trans s15.vis).trans s8.vis, hD5, by omega, ra.ex (s15.vis.trans s8.vis), f2, hr⟩
        · have l6 := st5.len
          have l5 := off.1
          rw [wipe_length] at l5
          have l1 := st1.len
          omega
        · rw [s15.fr x (.inl hx)]
          exact fr' x hx
    · have ei : i = xs.length := by omega
      subst ei
      rw [List.drop_length] at hgo
      cases hgo
      rw [List.append_nil] at hr
      subst hr
      refine .inl ⟨w1, q (.ref D) [D] T' H' ⟨?_, st'.al, st'.off, st'.dis, st'.nd, fun j hj => st'.out j (by rw [backE_len] at hj; rw [clearE_len]; exact hj), fun j s hj => ?_, fun v hv => st1.pin v hv⟩ (by simp) (fun x hx => ?_) (fun x hx => (fr' x hx).trans (s1.fr x hx)) (s1.vis.trans vis') ⟨D, acc, [], rfl, hacc, Cels.dats ra, rfl⟩⟩
      · rw [backE_len, hlen]; exact st1.len
      · have hjl : j < ρ'.length := by
          have := (List.getElem?_eq_some_iff.mp hj).1
          rw [backE_len] at this
          exact this
        by_cases c : j ∈ vs
        · rw [backE_at c hjl] at hj
          cases hj
          obtain ⟨o', _, h2⟩ := st'.sl j .un (clearE_at c hjl)
          have hT : T' j = [] := h2
          have hσ : j < σ.length := by rw [st1.len, ← hlen]; exact hjl
          rw [hT]
          have h9 : ρ1[j]? = some (ρ1[j]'(by rw [← hlen]; exact hjl)) := List.getElem?_eq_getElem _
          rw [h9]
          obtain ⟨o9, k1, k2⟩ := st1.sl j _ h9
          cases hs9 : ρ1[j]'(by rw [← hlen]; exact hjl) with
          | un => exact ⟨_, List.getElem?_eq_getElem hσ, rfl⟩
          | own cs => exact ⟨_, List.getElem?_eq_getElem hσ, rfl⟩
          | dat d =>
            rw [hs9] at k2
            obtain ⟨_, v, rfl, rv⟩ := k2
            exact ⟨_, k1, rfl, v, rfl, rv.ex vis'⟩
        · rw [backE_off c] at hj
          obtain ⟨o', k1, k2⟩ := st'.sl j s (by rw [clearE_off c]; exact hj)
          rw [wipe_get c] at k1
          exact ⟨o', k1, k2⟩
      · have ex : x = D := by simpa using hx
        rw [ex]
        exact fun z => npF D z rfl
  · rw [if_neg hz] at hh; cases hh
/-! ### defs -/
def runP (n k : Nat) (X : XS) (ds : List PD) : Option PD := if ds.length = n then (X (ds.map Sl.dat ++ List.replicate k Sl.un)).bind fun o => match o with
  | .ret d _ => some d
  | .nxt _ => some .none
  | _ => none else none
def runW (n k : Nat) (X : XS) (cs : List Cel) (ds : List PD) : Option (PD × List Cel) := if ds.length = n then (X (.own cs :: (ds.map Sl.dat ++ List.replicate k Sl.un))).bind fun o => match o with
  | .ret d ρ => (ownAt ρ 0).bind fun cs' => some (d, cs')
  | .nxt ρ => (ownAt ρ 0).bind fun cs' => some (.none, cs')
  | _ => none else none
def runD (n k : Nat) (X : XS) (ds : List PD) : Option (List Cel) := if ds.length = n then (X (ds.map Sl.dat ++ List.replicate k Sl.un)).bind fun o => match o with
  | .retO cs _ => some cs
  | _ => none else none
/-- a def that gives a new list, owned -/
def spD (f : List PD → Option (List Cel)) : Sp := fun vs H Q _ => ∃ S ds cs, Al S H ∧ RpAll (hid S H) vs ds ∧ f ds = some cs ∧ ∀ v A H2, Ex H H2 → A.Nodup → (∀ x ∈ A, ¬ S x ∧ H x = none) → Own (hid (FL S A) H2) H2 v cs A → Q v H2
theorem sw_callD {f : List PD → Option (List Cel)} {ts : TA} {as : XWA} (hs : SWA ts as) : SWO (tCall (spD f) [] E0 ts) (fun ρ => (as ρ).bind fun x => (f x.1).bind fun cs => some (cs, x.2)) := fun pn F T H σ ρ cs ρ' st e Q q => by
  obtain ⟨⟨xs, ρ1⟩, h1, e⟩ := bind_some e
  obtain ⟨z, h3, e⟩ := bind_some e
  cases e
  refine hs pn F T H σ ρ xs _ st h1 _ fun vs T1 H1 st1 s1 rv => ⟨SF F T1, xs, cs, st1.als, by rw [List.append_nil]; exact rv, h3, fun v A H2 e2 nd off ow => ?_⟩
  have eq : SF (FL F A) T1 = FL (SF F T1) A := funext fun x => propext ⟨fun h => h.elim (fun h => h.elim (fun z => .inl (.inl z)) .inr) fun z => .inl (.inr z), fun h => h.elim (fun h => h.elim (fun z => .inl (.inl z)) .inr) fun z => .inl (.inr z)⟩
  have vis : Ex (hid (SF F T1) H1) (hid (SF (FL F A) T1) H2) := fun x o h => by
    obtain ⟨c, h⟩ := hid_some h
    rw [hid_out]
    · exact e2 x o h
    · rw [eq]
      rintro (z | z)
      · exact c z
      · rw [(off x z).2] at h; cases h
  have st2 := st1.ex e2
  refine q v A T1 H2 ⟨st2.len, fun x hx => hx.elim (st2.al x) (fun z => let ⟨ws, g⟩ := ow.lst x z; fun w => by rw [g] at w; cases w), fun i x hx z => z.elim (st1.off i x hx) fun z => (off x z).1 (.inr ⟨i, hx⟩), st2.dis, st2.nd, st2.out, fun i s hi => ?_, st2.pin⟩ nd (fun x hx z => (off x hx).1 (.inl z)) (fun x hx => ((Stp.ex (T := T1) st1.al e2).fr x hx).trans (s1.fr x hx)) (s1.vis.trans vis) (by rw [eq]; exact ow)
  obtain ⟨o, k1, k2⟩ := st1.sl i s hi
  refine ⟨o, k1, k2.mv vis fun x hx => ?_⟩
  obtain ⟨ws, g⟩ := st1.lst hx
  rw [g, e2 x _ g]
theorem st0 {S : Hs} {H : Hp} {N : List Str} {vs : List V} {ds : List PD} {n k : Nat} (al : Al S H) (ra : RpAll (hid S H) vs ds) (hn : ds.length = n) (hN : N.length = n + k) : StOk none S (fun _ => []) H (L2.start N vs) (ds.map Sl.dat ++ List.replicate k Sl.un) := by
  have e : N.length - vs.length = k := by rw [ra.length, hN, hn]; omega
  have eS : ∀ x, S x ↔ SF S (fun _ => []) x := fun x => ⟨.inl, fun h => h.elim id fun ⟨_, z⟩ => nomatch z⟩
  refine ⟨by unfold L2.start; rw [List.length_append, List.length_map, List.length_append, List.length_map, List.length_replicate, List.length_replicate, e, ra.length], al, fun i x h => (nomatch h), fun i j x h => (nomatch h), fun i => List.nodup_nil, fun i _ => rfl, fun i s hi => ?_, fun v z => nomatch z⟩
  unfold L2.start
  rw [e]
  by_cases c : i < ds.length
  · rw [List.getElem?_append_left (by rw [List.length_map]; exact c), List.getElem?_map, List.getElem?_eq_getElem c] at hi
    cases hi
    obtain ⟨v, h1, h2⟩ := ra.get (List.getElem?_eq_getElem c)
    refine ⟨some v, ?_, rfl, v, rfl, ?_⟩
    · rw [List.getElem?_append_left (by rw [List.length_map, ra.length]; exact c), List.getElem?_map, h1]
      rfl
    · rw [← hid_eq eS]; exact h2
  · rw [List.getElem?_append_right (by rw [List.length_map]; omega), List.getElem?_replicate] at hi
    rw [List.getElem?_append_right (by rw [List.length_map, ra.length]; omega), List.getElem?_replicate]
    rw [List.length_map] at hi ⊢
    rw [ra.length]
    split at hi
    · rename_i c2
      cases hi
      exact ⟨none, by rw [if_pos c2], rfl⟩
    · cases hi
theorem go_P {t : TS} {X : XS} {N : List Str} {vs : List V} {H : Hp} {Q : VK} {E : XK} {n k : Nat} (hX : SS t X) (hN : N.length = n + k) (hs : spF (runP n k X) vs H Q E) : t { nx := fun _ H' => Q .non H', rt := Q } (L2.start N vs) H := by
  obtain ⟨S, ds, d, al, ra, h, q⟩ := hs
  unfold runP at h
  by_cases hn : ds.length = n
  · rw [if_pos hn] at h
    obtain ⟨o, h1, h⟩ := bind_some h
    have eS : ∀ {T' : Trs} x, S x → SF S T' x := fun x => .inl
    have ex : ∀ {T' : Trs} {H' : Hp}, Stp S (fun _ => []) H T' H' → Ex H H' := fun {T' H'} s x o hx => by
      by_cases c : S x
      · rw [s.fr x c]; exact hx
      · exact hid_le _ _ (s.vis x o (by rw [hid_out (fun z => z.elim c fun ⟨_, z⟩ => nomatch z)]; exact hx))
    refine hX none S _ H _ _ o _ (st0 al ra hn hN) h1 ?_
    cases o with
    | ret d' ρ' => cases h; exact fun v σ T' H' st' s' rv => q v H' (ex s') (rv.ex (hid_sub fun x hx => .inl hx))
    | nxt ρ' => cases h; exact fun σ T' H' st' s' => q .non H' (ex s') .non
    | retO _ _ => cases h
    | brk _ => cases h
    | cnt _ => cases h
  · rw [if_neg hn] at h; cases h
theorem go_D {t : TS} {X : XS} {N : List Str} {vs : List V} {H : Hp} {Q : VK} {E : XK} {n k : Nat} (hX : SS t X) (hN : N.length = n + k) (hs : spD (runD n k X) vs H Q E) : t { nx := fun _ H' => Q .non H', rt := Q } (L2.start N vs) H := by
  obtain ⟨S, ds, d, al, ra, h, q⟩ := hs
  unfold runD at h
  by_cases hn : ds.length = n
  · rw [if_pos hn] at h
    obtain ⟨o, h1, h⟩ := bind_some h
    refine hX none S _ H _ _ o _ (st0 al ra hn hN) h1 ?_
    cases o with
    | retO d' ρ' =>
      cases h
      intro v A σ T' H' st' nd off fr vis ow
      have ex : Ex H H' := fun x o hx => by
        by_cases c : S x
        · rw [fr x c]; exact hx
        · exact hid_le _ _ (vis x o (by rw [hid_out (fun z => z.elim c fun ⟨_, z⟩ => nomatch z)]; exact hx))
      refine q v A H' ex nd (fun x hx => ⟨off x hx, ?_⟩) (ow.mv (hid_sub fun x hx => .inl hx) fun _ _ => rfl)
      cases qq : H x with
      | none => rfl
      | some o =>
        obtain ⟨c, _⟩ := hid_some (vis x o (by rw [hid_out (fun z => z.elim (off x hx) fun ⟨_, z⟩ => nomatch z)]; exact qq))
        exact absurd (.inl (.inr hx)) c
    | ret _ _ => cases h
    | nxt _ => cases h
    | brk _ => cases h
    | cnt _ => cases h
  · rw [if_neg hn] at h; cases h
theorem go_W {t : TS} {X : XS} {N : List Str} {vs : List V} {H : Hp} {Q : VK} {E : XK} {n k : Nat} (hX : SS t X) (hN : N.length = n + 1 + k) (hs : spW (runW n k X) vs H Q E) : t { nx := fun _ H' => Q .non H', rt := Q } (L2.start N vs) H := by
  obtain ⟨F, a, B, cs, ws, ds, d, cs', rfl, al, off, nd, ow, ra, h, q⟩ := hs
  unfold runW at h
  by_cases hn : ds.length = n
  · rw [if_pos hn] at h
    obtain ⟨o, h1, h⟩ := bind_some h
    obtain ⟨T, hT⟩ : ∃ T : Trs, T = fun i => if i = 0 then a :: B else [] := ⟨_, rfl⟩
    have T0 : T 0 = a :: B := by rw [hT]; rfl
    have TS : ∀ i, i ≠ 0 → T i = [] := fun i hi => by rw [hT]; exact if_neg hi
    have eqv : ∀ x, FL F (a :: B) x ↔ SF F T x := fun x => by
      constructor
      · rintro (z | z)
        · exact .inl z
        · exact .inr ⟨0, by rw [T0]; exact z⟩
      · rintro (z | ⟨i, z⟩)
        · exact .inl z
        · by_cases c : i = 0
          · subst c; rw [T0] at z; exact .inr z
          · rw [TS i c] at z; cases z
    have eh : hid (FL F (a :: B)) H = hid (SF F T) H := hid_eq eqv
    have e : N.length - (V.ref a :: ws).length = k := by rw [List.length_cons, ra.length, hN, hn]; omega
    have st : StOk (some (.ref a)) F T H (L2.start N (.ref a :: ws)) (.own cs :: (ds.map Sl.dat ++ List.replicate k Sl.un)) := by
      have mem : ∀ i x, x ∈ T i → i = 0 ∧ x ∈ a :: B := fun i x hx => by
        by_cases c : i = 0
        · subst c; rw [T0] at hx; exact ⟨rfl, hx⟩
        · rw [TS i c] at hx; cases hx
      refine ⟨?_, al, fun i x hx => off x (mem i x hx).2, fun i j x hx hy => (mem i x hx).1.trans (mem j x hy).1.symm, fun i => ?_, fun i hi => TS i (by rw [List.length_cons] at hi; omega), fun i s hi => ?_, fun v hv => ?_⟩
      · unfold L2.start
        rw [e]
        simp only [List.map_cons, List.cons_append, List.length_cons, List.length_append, List.length_map, List.length_replicate]
        rw [ra.length]
      · by_cases c : i = 0
        · subst c; rw [T0]; exact nd
        · rw [TS i c]; exact List.nodup_nil
      · unfold L2.start
        rw [e]
        cases i with
        | zero =>
          cases hi
          rw [T0]
          exact ⟨_, rfl, _, rfl, by rw [← eh]; exact ow⟩
        | succ i =>
          rw [TS _ (Nat.succ_ne_zero i)]
          have hi : (ds.map Sl.dat ++ List.replicate k Sl.un)[i]? = some s := hi
          show ∃ o, (ws.map some ++ List.replicate k none)[i]? = some o ∧ _
          by_cases c : i < ds.length
          · rw [List.getElem?_append_left (by rw [List.length_map]; exact c), List.getElem?_map, List.getElem?_eq_getElem c] at hi
            cases hi
            obtain ⟨v, k1, k2⟩ := ra.get (List.getElem?_eq_getElem c)
            refine ⟨some v, ?_, rfl, v, rfl, by rw [← eh]; exact k2⟩
            rw [List.getElem?_append_left (by rw [List.length_map, ra.length]; exact c), List.getElem?_map, k1]
            rfl
          · rw [List.getElem?_append_right (by rw [List.length_map]; omega), List.getElem?_replicate] at hi
            rw [List.getElem?_append_right (by rw [List.length_map, ra.length]; omega), List.getElem?_replicate]
            rw [List.length_map] at hi ⊢
            rw [ra.length]
            split at hi
            · rename_i c2
              cases hi
              exact ⟨none, by rw [if_pos c2], rfl⟩
            · cases hi
      · cases hv
        unfold L2.start
        rfl
    have fin : ∀ (v : V) (d1 : PD) (cs1 : List Cel) (σ : L2.St) (ρ1 : Env) (T' : Trs) (H' : Hp), StOk (some (.ref a)) F T' H' σ ρ1 → Stp F T H T' H' → Rp (hid (SF F T') H') v d1 → ownAt ρ1 0 = some cs1 → (d1, cs1) = (d, cs') → Q v H' := by
      intro v d1 cs1 σ ρ1 T' H' st' s' rv ho e2
      cases e2
      obtain ⟨a', us, B', h1, h2, h3, h4⟩ := st'.at_own (ownAt_eq ho)
      have hp := st'.pin _ rfl
      have ea : a' = a := by rw [h1] at hp; cases hp; rfl
      subst ea
      have sub : Ex (hid (SF F T') H') (hid (FL F (a' :: B')) H') := hid_sub fun x hx => hx.elim .inl fun z => .inr ⟨0, by rw [h4]; exact z⟩
      refine q v B' H' s'.fr (by rw [eh]; exact s'.vis.trans sub) (fun x hx => st'.off 0 x (by rw [h4]; exact hx)) (by rw [← h4]; exact st'.nd 0) ⟨a', us, B', rfl, h2, h3.mv sub fun _ _ => rfl, rfl⟩ (rv.ex sub)
    refine hX (some (.ref a)) F T H _ _ o _ st h1 ?_
    cases o with
    | ret d' ρ' =>
      obtain ⟨c1, k1, k2⟩ := bind_some h
      exact fun v σ T' H' st' s' rv => fin v d' c1 σ ρ' T' H' st' s' rv k1 (Option.some.inj k2)
    | nxt ρ' =>
      obtain ⟨c1, k1, k2⟩ := bind_some h
      exact fun σ T' H' st' s' => fin .non .none c1 σ ρ' T' H' st' s' .non k1 (Option.some.inj k2)
    | retO _ _ => cases h
    | brk _ => cases h
    | cnt _ => cases h
  · rw [if_neg hn] at h; cases h
/-! how many arguments -/
theorem len_F {n k : Nat} {X : XS} {vs : List V} {H : Hp} {Q : VK} {E : XK} (h : spF (runP n k X) vs H Q E) : vs.length = n := by
  obtain ⟨S, ds, d, _, ra, h, _⟩ := h
  unfold runP at h
  by_cases hn : ds.length = n
  · rw [ra.length]; exact hn
  · rw [if_neg hn] at h; cases h
theorem len_D {n k : Nat} {X : XS} {vs : List V} {H : Hp} {Q : VK} {E : XK} (h : spD (runD n k X) vs H Q E) : vs.length = n := by
  obtain ⟨S, ds, d, _, ra, h, _⟩ := h
  unfold runD at h
  by_cases hn : ds.length = n
  · rw [ra.length]; exact hn
  · rw [if_neg hn] at h; cases h
theorem len_W {n k : Nat} {X : XS} {vs : List V} {H : Hp} {Q : VK} {E : XK} (h : spW (runW n k X) vs H Q E) : vs.length = n + 1 := by
  obtain ⟨F, a, B, cs, ws, ds, d, cs', rfl, _, _, _, _, ra, h, _⟩ := h
  unfold runW at h
  by_cases hn : ds.length = n
  · rw [List.length_cons, ra.length, hn]
  · rw [if_neg hn] at h; cases h
end Uv

namespace Uv
open PySem PySem.Spec PyProof.Rows L2
open Evl (Ex)
/-! ### defs, called where nothing is under way (so repr tells all) -/
section
variable {P : Program} {w : World} {K : PySem.W.Frag} {mg : Str → Option Value} {base : Heap}
structure FnG (P : Program) (w : World) (K : PySem.W.Frag) (mg : Str → Option Value) (base : Heap) (k : Nat) (f : Addr) (fd : FuncData) (ps : List Str) (sp : Sp) : Prop where
  len : ∀ vs H Q E, sp vs H Q E → vs.length = ps.length
  run : ∀ (A : Around) (outer : List PySem.Env) (s : Shared) (H : Hp) (args : Args) (us : List Value) (vs : List V) (Q : VK) (E : XK), A.guards = some [] → Room k A → Env0 P w K mg base A outer s H → BindsTo s fd args (ps.zip us) → Vals vs us → sp vs H Q E →
    codeAny (model P w) A (.call (.ref f) args) (CR CX0 outer P w H s Q E) s
structure CalG (P : Program) (w : World) (K : PySem.W.Frag) (mg : Str → Option Value) (base : Heap) (k : Nat) (x : Str) (sp : Sp) : Prop where
  ex : ∃ (f : Addr) (fd : FuncData) (ps : List Str), FnG P w K mg base k f fd ps sp ∧ mg x = some (.ref f) ∧ PySem.W.keepIn K (.ref f) = true ∧ Binds K fd ps []
structure Dfn (K : PySem.W.Frag) (mg : Str → Option Value) (x : Str) (st : Stmt) (ps : List Str) : Prop where
  ex : ∃ f fd, Fun K x x st f fd ∧ mg x = some (.ref f) ∧ Binds K fd ps []
theorem dfn_mk {h : Heap} {x : Str} {st : Stmt} {ps : List Str} {f : Addr} {od an : Option Addr} {sl : Array (Option Value)} {oc kV dc pm cd ct : Value} (X : K.In h) (G : h.Ns mainGlobals mg)
    (a1 : PySem.W.nsIn K mainGlobals x = some (some (.ref f))) (l1 : K.lookup f = some ⟨oc, od, .func (PySem.W.fnOf x x (defArgs st) (defBody st) (defScope st) .none kV dc pm an cd ct), sl⟩) (c1 : PySem.W.codeIn K cd x = true) (k1 : PySem.W.keepIn K (.ref f) = true)
    (hb : ∀ (kV doc pm : Value) (an : Option Addr) (cdv ct : Value) (us : List Value), us.length = ps.length → bindArgs (PySem.W.fnOf x x (defArgs st) (defBody st) (defScope st) .none kV doc pm an cdv ct) ⟨us, []⟩ = pure (ps.zip us)) : Dfn K mg x st ps := by
  have F := fun_mk (st := st) l1 c1 k1
  exact ⟨f, _, F, PySem.W.mg_of X G a1, F.binds hb⟩
/-- a call by its name -/
theorem pe_g {X : Cx} {j k : Nat} {x : Str} {sp : Sp} {p pos : Pos} {e : Expr} {es : List Expr} {t : TA} (c : CalG X.prog X.w X.K X.mg X.base k x sp) (hr : Room j X.A) (hk : k ≤ j) (hG : X.A.guards = some []) (hg : Gl X x) (ha : PA X (e :: es) t)
    (hdb : (x == ("__debug__" : Str)) = false := by decide) (he : starEach (e :: es) X.env = (false, eval e X.env) :: starEach es X.env := by rfl) (hpl : (backTo pos (starEach es X.env)).any (·.1) = false := by rfl) :
    PE X (.Call (.Name x p) (e :: es) [] pos) (tCall sp [] E0 t) := by
  obtain ⟨f, fd, ps, F, hm, kp, b⟩ := c.ex
  refine ⟨fun pins s σ H Q I h => wpAny_Call_Name_kw (ld_glob I hg hm ?_ hdb)⟩
  refine PySem.W.callWith_K (h₀ := X.base) I.ok.mod.kin kp (thn (ha.run pos pins s σ H _ I h) fun us s1 hh => ?_) he hpl
  obtain ⟨vs, H1, I1, r, q⟩ := hh
  rw [List.append_nil] at q
  have hl : us.length = ps.length := by rw [← r.length]; exact F.len _ _ _ _ q
  have bd := b s1 us I1.kIn (by rw [List.append_nil]; exact hl)
  rw [List.append_nil] at bd
  refine ⟨I1.kIn, wpAny_call (codeAny_mono (F.run X.A X.stack s1 H1 ⟨us, []⟩ us vs Q E0 hG (hr.mono hk) I1.env0 bd r q) fun rr s' hq => ?_)⟩
  match rr, hq with
  | .error _, hq => exact hq.elim
  | .ok (.ret u), hq => exact I1.after hq
  | .ok .next, hq => exact hq.elim
  | .ok .brk, hq => exact hq.elim
  | .ok .cont, hq => exact hq.elim
/-- a def by its body -/
theorem fn_g {x : Str} {st : Stmt} {f : Addr} {fd : FuncData} {N ps : List Str} {k : Nat} {sp : Sp} (F : Fun K x x st f fd) (S : FnScope N ps (defScope st)) (len : ∀ vs H Q E, sp vs H Q E → vs.length = ps.length)
    (hb : ∀ (cdv : Value) (A : Around) (outer : List PySem.Env) (s : Shared) (H : Hp) (E : XK), (A.deeper (envOfC x (defScope st) s.heap.objs.size f cdv)).guards = some [] → Room k (A.deeper (envOfC x (defScope st) s.heap.objs.size f cdv)) →
      ∃ t, PSs (cxOf CX0 P w K mg base N x (defScope st) f cdv A outer s H E).nox (defBody st) t ∧ ∀ vs Q, sp vs H Q E → t { nx := fun _ H' => Q .non H', rt := Q } (L2.start N vs) H) : FnG P w K mg base (k + 1) f fd ps sp := by
  obtain ⟨oc, od, kV, doc, pm, an, cdv, ct, osl, rfl, lk, hcd⟩ := F.ex
  refine ⟨len, fun A outer s H args us vs Q E hG hr e0 hbd r hsp => ?_⟩
  obtain ⟨t, ht, hq⟩ := hb cdv A outer s H E hG (hr.deeper _)
  have keep : ∀ b o, base.get? b = some o → s.heap.get? b = some o := fun b o e => (e0.bs b o e).1
  have KX : K.In s.heap := e0.mod.kin.keeps keep
  have lim : s.heap.NoLimit := e0.mod.nolimit.keeps keep
  refine codeAny_call_function hr.depth (KX _ _ lk) rfl S.co S.gen rfl (PySem.W.codeRec_of KX hcd) (hbd _ _ _ _ ?_)
  refine wpAny_newFunctionEnv_cells S.kind (fun y hy => ?_) fun env he s1 ic => ?_
  · rcases S.par y.1 (List.of_mem_zip hy).1 with q | q
    · exact .inl q
    · exact .inr ⟨q, PySem.W.cellsFrom_some _ _ _ (.inl q)⟩
  · subst he
    have I : Inv (cxOf CX0 P w K mg base N x (defScope st) f cdv A outer s H E) [] (L2.start N vs) H s1 := inv_start S hr.hd e0 (len _ _ _ _ hsp) r ic
    refine ⟨lim.keeps ic.toInCall.keep, codeAny_func (wpAny_mono (ht.nox.run [] s1 (L2.start N vs) H _ I (hq vs Q hsp)) (fun fl s' hs => ?_) fun e s' hs => hs)⟩
    match fl, hs with
    | .ret u, ⟨v, σ', H', J, rv, q⟩ => exact ⟨v, H', J.os, J.bare, J.base, J.hok, rv, q⟩
    | .next, ⟨σ', H', J, q⟩ => exact ⟨.non, H', J.os, J.bare, J.base, J.hok, rfl, q⟩
    | .brk, ⟨_, _, _, q⟩ => exact q.elim
    | .cont, ⟨_, _, _, q⟩ => exact q.elim
theorem cal_g {x : Str} {st : Stmt} {N ps : List Str} {k : Nat} {sp : Sp} (F : Dfn K mg x st ps) (S : FnScope N ps (defScope st)) (len : ∀ vs H Q E, sp vs H Q E → vs.length = ps.length)
    (hb : ∀ (f : Addr) (cdv : Value) (A : Around) (outer : List PySem.Env) (s : Shared) (H : Hp) (E : XK), (A.deeper (envOfC x (defScope st) s.heap.objs.size f cdv)).guards = some [] → Room k (A.deeper (envOfC x (defScope st) s.heap.objs.size f cdv)) →
      ∃ t, PSs (cxOf CX0 P w K mg base N x (defScope st) f cdv A outer s H E).nox (defBody st) t ∧ ∀ vs Q, sp vs H Q E → t { nx := fun _ H' => Q .non H', rt := Q } (L2.start N vs) H) : CalG P w K mg base (k + 1) x sp := by
  obtain ⟨f, fd, F, hm, b⟩ := F.ex
  exact ⟨f, fd, ps, fn_g F S len (hb f), hm, F.kp, b⟩
end
/-! ### the end -/
/-- the heap behind the top as the layer sees it: the script alone may be tracked, and it is frozen -/
def scriptH (K : PySem.W.Frag) (a : Addr) (vs : List Value) (ns : List Int) : Hp := fun b => if b = a ∧ K.lookup a = none then some (.frz { cls := .type "list", data := .seq vs.toArray } (.lst (ns.map V.int))) else none
theorem scriptH_some {K : PySem.W.Frag} {a b : Addr} {vs : List Value} {ns : List Int} {o : HO} (h : scriptH K a vs ns b = some o) : b = a ∧ K.lookup a = none ∧ o = .frz { cls := .type "list", data := .seq vs.toArray } (.lst (ns.map V.int)) := by
  unfold scriptH at h
  by_cases c : b = a ∧ K.lookup a = none
  · rw [if_pos c] at h
    exact ⟨c.1, c.2, (Option.some.inj h).symm⟩
  · rw [if_neg c] at h
    cases h
theorem none_by {K : PySem.W.Frag} {a b : Addr} {vs : List Value} {ns : List Int} (h : b = a → K.lookup a = none → False) : scriptH K a vs ns b = none := by
  cases q : scriptH K a vs ns b with
  | none => rfl
  | some o =>
    obtain ⟨e1, e2, _⟩ := scriptH_some q
    exact (h e1 e2).elim
theorem top_call {P : Program} {w : World} {K : PySem.W.Frag} {mg mb : Str → Option Value} {k : Nat} {fa a : Addr} {fd : FuncData} {x : Str} {sp : Sp} {s₁ : Shared} {vs : List Value} {ns : List Int}
    (KX : K.In s₁.heap) (hns : s₁.heap.Ns mainGlobals mg) (hb : s₁.heap.Ns builtinsNs mb) (hbb : ∀ x : Str, x ≠ "__name__" → mb x = bootBuiltins x) (hlim : s₁.heap.NoLimit) (hg : s₁.gens = #[])
    (ha : s₁.heap.get? a = some { cls := .type "list", data := .seq vs.toArray }) (hi : IntsAre vs ns) (hl : ns.length ≤ sizeLine) (hr : Room k callerA)
    (F : ∀ base : Heap, K.In base → base.Ns mainGlobals mg → FnG P w K mg base k fa fd [x] sp) (hbind : ∀ (s : Shared) (u : Value), BindsTo s fd ⟨[u], []⟩ [(x, u)])
    (hsp : ∀ H : Hp, SqL K H a (ns.map V.int) → sp [.ref a] H (fun v _ => v = .bl true) fun _ _ _ => False) :
    codeAny (model P w) callerA (.call (.ref fa) ⟨[.ref a], []⟩) (fun r s' => r = .ok (.ret (.bool true)) ∧ OldK s₁.heap s'.heap ∧ s'.os = s₁.os ∧ AllBare s'.gens) s₁ := by
  have rv := vals_ints hi
  have hs : SqL K (scriptH K a vs ns) a (ns.map V.int) := by
    cases hk : K.lookup a with
    | none => exact .inl (.inr ⟨_, if_pos ⟨rfl, hk⟩⟩)
    | some o =>
      have e := KX a o hk
      rw [ha] at e
      cases e
      exact .inr ⟨_, vs.toArray, _, hk, rfl, rfl, rfl, by rw [List.size_toArray, hi.length]; exact hl, by simpa using rv⟩
  have hok : HOk P w (scriptH K a vs ns) s₁.heap := fun b o h => by
    obtain ⟨rfl, _, rfl⟩ := scriptH_some h
    exact ⟨ha, by rw [List.length_map]; exact hl, vs, _, rv, ha⟩
  have old : ∀ {b : Addr} {o : Obj}, s₁.heap.get? b = some o → scriptH K a vs ns b = none → (hidT s₁.heap (scriptH K a vs ns)).get? b = some o := fun e n => hidT_get e n
  have nsK : ∀ {b : Addr} {m : Str → Option Value}, s₁.heap.Ns b m → (hidT s₁.heap (scriptH K a vs ns)).Ns b m := fun {b m} ⟨o, es, ep, e, d, r⟩ => ⟨o, es, ep, old e (none_by fun z _ => by
    subst z
    rw [ha] at e
    cases e
    exact nomatch (show Data.seq vs.toArray _ = Data.dict es ep from d)), d, r⟩
  have kin : K.In (hidT s₁.heap (scriptH K a vs ns)) := fun b o e => old (KX b o e) (none_by fun z q => by
    subst z
    rw [q] at e
    cases e)
  have mod : Mod K mg (hidT s₁.heap (scriptH K a vs ns)) := ⟨kin, nsK hns, ⟨mb, nsK hb, hbb⟩, let ⟨mc, h1, h2⟩ := hlim; ⟨mc, nsK h1, h2⟩⟩
  have e0 : Env0 P w K mg (hidT s₁.heap (scriptH K a vs ns)) callerA [] s₁ (scriptH K a vs ns) := ⟨rfl, mod, fun b o e => of_hidT e, Nat.le_of_eq (hidT_size _ _), trivial, fun b hb => absurd (show b ∈ ([] : List Addr) from hb) (by simp), hok, .of_eq hg⟩
  refine codeAny_mono ((F _ kin (nsK hns)).run callerA [] s₁ _ ⟨[.ref a], []⟩ [.ref a] [.ref a] _ _ rfl hr e0 (hbind s₁ (.ref a)) (.cons rfl .nil) (hsp _ hs)) fun r s' h => ?_
  match r, h with
  | .error e, h => exact h.elim
  | .ok .next, h => exact h.elim
  | .ok .brk, h => exact h.elim
  | .ok .cont, h => exact h.elim
  | .ok (.ret u), ⟨v, H', os, bare, un, hok', r', q⟩ =>
    have q' : v = .bl true := q
    subst q'
    obtain rfl : u = Value.bool true := r'
    refine ⟨rfl, OldK.of_keep fun b o e => ?_, os, bare⟩
    cases q : scriptH K a vs ns b with
    | none => exact un.keep b o e q (fun z => absurd (show b ∈ ([] : List Addr) from z) (by simp)) (by simp)
    | some u =>
      obtain ⟨rfl, _, rfl⟩ := scriptH_some q
      obtain ⟨e1, _⟩ := hok b _ q
      obtain ⟨e2, _⟩ := hok' b _ (un.frzs b _ _ q)
      rw [e] at e1
      cases e1
      exact e2
/-- the row from the law as a function of the script -/
theorem walk_v {l : PySem.W.OpenLaw} {n k : Nat} {q : Program} {loose : List Str} {XP : (Str → Option Value) → Heap → Prop} {YP : World → Heap → Prop} {d : DefRec} {K : Params → PySem.W.Frag} {f : List PD → Option PD} {x : Str}
    (hn : l.most = some n) (hn2 : n ≤ sizeLine) (hdf : d.params.defaults = []) (hr : Room k callerA) (hY : ∀ (w : World) (h : Heap), YP w h → (K w.params).In h)
    (F : ∀ (w : World) (mg : Str → Option Value) (fa : Addr) (h : Heap), (K w.params).In h → h.Ns mainGlobals mg → mg d.name = some (.ref fa) →
      ∃ fd : FuncData, (∀ (s : Shared) (u : Value), BindsTo s fd ⟨[u], []⟩ [(x, u)]) ∧ ∀ base : Heap, (K w.params).In base → base.Ns mainGlobals mg → FnG l.prog w (K w.params) mg base k fa fd [x] (@spF ⟨K w.params⟩ f))
    (hf : ∀ ns : List Int, ns.length ≤ n → f [scrD (ns.map PyData.int)] = some (.bool true)) :
    PySem.W.WalkO q loose XP YP l.row.toRowW d [] (fun f vs => PySem.call f vs) := by
  refine Att.attach_call hn hdf fun w s₀ s₁ mg mb fa o pm cd doc a vs ns G Y ho hd hcd hmg hobj hints hlen hg => ?_
  obtain ⟨fd, hb, hF⟩ := F w mg fa _ (hY w _ Y) G.T.g hmg
  refine top_call (hY w _ Y) G.T.g G.T.b G.T.builtins G.T.nolimit hg hobj hints (Nat.le_trans hlen hn2) hr hF hb fun H hS => ?_
  letI : KK := ⟨K w.params⟩
  have e : ∀ x, ¬ (fun _ : Addr => False) x := fun x z => z
  have eh : hid (fun _ => False) H = H := funext fun x => hid_out (e x)
  refine ⟨fun _ => False, [scrD (ns.map PyData.int)], .bool true, fun x z => z.elim, .cons (.scr (xs := ns.map V.int) (by rw [eh]; exact hS) (RpAll.ofInts ns)) .nil, hf ns hlen, fun v H2 _ rv => ?_⟩
  cases rv
  rfl
end Uv

namespace Uv
open PySem PySem.Spec PyProof.Rows L2
open Evl (Ex)
variable [kk : KK]
def wCallD (f : List PD → Option (List Cel)) (as : XWA) : XWO := fun ρ => (as ρ).bind fun x => (f x.1).bind fun cs => some (cs, x.2)
/-! ### x[k].append(e), e drawn: the list within is kept aside meanwhile -/
def sAppS (i : Nat) (k : XE) (a : XW) : XS := fun ρ => (ownAt ρ i).bind fun cs => ((k (vw ρ)).bind isI).bind fun kk => (ixN cs.length kk).bind fun n => (subAt cs n).bind fun ds => (a (ρ.set i .un)).bind fun x =>
  match x.2[i]? with
  | some .un => if ds.length < 100000 then some (.nxt (x.2.set i (.own (cs.set n (.sub (ds ++ [x.1])))))) else none
  | _ => none
theorem StOk.protect {pn : Option V} {F : Hs} {T : Trs} {H : Hp} {σ : L2.St} {ρ : Env} (st : StOk pn F T H σ ρ) {i : Nat} (hi : i < ρ.length) : StOk pn (FL F (T i)) (setT T i []) H σ (ρ.set i .un) ∧ SF (FL F (T i)) (setT T i []) = SF F T := by
  have eS : SF (FL F (T i)) (setT T i []) = SF F T := funext fun x => propext ⟨fun h => by
      rcases h with (h | h) | ⟨j, h⟩
      · exact .inl h
      · exact .inr ⟨i, h⟩
      · by_cases c : j = i
        · subst c; rw [setT_same] at h; cases h
        · rw [setT_ne c] at h; exact .inr ⟨j, h⟩, fun h => by
      rcases h with h | ⟨j, h⟩
      · exact .inl (.inl h)
      · by_cases c : j = i
        · subst c; exact .inl (.inr h)
        · exact .inr ⟨j, by rw [setT_ne c]; exact h⟩⟩
  have mem : ∀ j x, x ∈ setT T i [] j → x ∈ T j ∧ j ≠ i := fun j x h => by
    by_cases c : j = i
    · subst c; rw [setT_same] at h; cases h
    · rw [setT_ne c] at h; exact ⟨h, c⟩
  refine ⟨⟨by rw [List.length_set]; exact st.len, fun x h => h.elim (st.al x) fun z => st.als x (.inr ⟨i, z⟩), fun j x h z => ?_, fun j k x h h' => st.dis j k x (mem j x h).1 (mem k x h').1, fun j => ?_, fun j hj => ?_, fun j q hq => ?_, st.pin⟩, eS⟩
  · obtain ⟨h1, h2⟩ := mem j x h
    exact z.elim (st.off j x h1) fun z => h2 (st.dis j i x h1 z)
  · by_cases c : j = i
    · subst c; rw [setT_same]; exact List.nodup_nil
    · rw [setT_ne c]; exact st.nd j
  · rw [List.length_set] at hj
    rw [setT_ne (by omega)]
    exact st.out j hj
  · by_cases c : i = j
    · subst c
      rw [List.getElem?_set_self hi] at hq
      cases hq
      rw [setT_same]
      exact ⟨_, List.getElem?_eq_getElem (by rw [st.len]; exact hi), rfl⟩
    · rw [List.getElem?_set_ne c] at hq
      rw [setT_ne (fun z => c z.symm), eS]
      exact st.sl j q hq
theorem ss_appS {i : Nat} {tk te : TE} {k : XE} {a : XW} (hi0 : i ≠ 0) (hk : SE tk k) (h : SW te a) : SS (tDrop (tBM K "list" rAppend (tOp (rIx K) (tVar i) tk) (tCons te tNil))) (sAppS i k a) := fun pn F T H σ ρ o D st e q => by
  obtain ⟨cs, h2, e⟩ := bind_some e
  obtain ⟨kk', h3, e⟩ := bind_some e
  obtain ⟨dk, h3, h4⟩ := bind_some h3
  obtain ⟨n, hn, e⟩ := bind_some e
  obtain ⟨ds, hd, e⟩ := bind_some e
  obtain ⟨⟨d, ρ1⟩, h5, e⟩ := bind_some e
  have ed : dk = _ := isI_eq h4
  subst ed
  have hu : ρ1[i]? = some .un ∧ ds.length < 100000 ∧ o = .nxt (ρ1.set i (.own (cs.set n (.sub (ds ++ [d]))))) := by
    revert e
    show (match ρ1[i]? with | some .un => if ds.length < 100000 then some (Out.nxt (ρ1.set i (.own (cs.set n (.sub (ds ++ [d])))))) else none | _ => none) = some o → _
    cases hq : ρ1[i]? with
    | none => intro e; cases e
    | some s =>
      cases s with
      | un =>
        intro e
        by_cases c : ds.length < 100000
        · have e : (if ds.length < 100000 then some (Out.nxt (ρ1.set i (.own (cs.set n (.sub (ds ++ [d])))))) else none) = some o := e
          rw [if_pos c] at e
          cases e
          exact ⟨rfl, c, rfl⟩
        · have e : (if ds.length < 100000 then some (Out.nxt (ρ1.set i (.own (cs.set n (.sub (ds ++ [d])))))) else none) = some o := e
          rw [if_neg c] at e
          cases e
      | dat _ => intro e; cases e
      | own _ => intro e; cases e
  obtain ⟨hu1, hu2, rfl⟩ := hu
  have hi := ownAt_eq h2
  have il : i < ρ.length := (List.getElem?_eq_some_iff.mp hi).1
  refine ix_sub st hi hn (subAt_eq hd) hk h3 fun b H2 e2 hb => ?_
  have st2 := st.ex e2
  have s2 : Stp F T H T H2 := Stp.ex st.al e2
  obtain ⟨a9, vs9, k1, k2, k3⟩ := hb
  obtain ⟨a', vs', B, g1, g2, g3, g4⟩ := st2.at_own hi
  have ea : a' = a9 := by rw [k1] at g1; cases g1; rfl
  subst ea
  have ev : vs' = vs9 := by rw [k2] at g2; cases g2; rfl
  subst ev
  have nd := st2.nd i
  obtain ⟨st3, eS⟩ := st2.protect il
  obtain ⟨b', ws, _, _, q3, q4, q5, q6, q7, q8, _⟩ := st2.writeSub (ds' := ds) hi (subAt_eq hd)
  refine ⟨.inl ⟨rfl, ?_⟩, h pn _ _ H2 σ _ d ρ1 st3 h5 _ fun v T4 H4 st4 s4 rv => ?_⟩
  · obtain ⟨a8, vs8, b8, ws8, u1, u2, u3, u4, u5, u6, _⟩ := st2.writeSub (ds' := ds) hi (subAt_eq hd)
    have ea : a8 = a' := by rw [k1] at u1; cases u1; rfl
    subst ea
    have ev : vs8 = vs' := by rw [k2] at u2; cases u2; rfl
    subst ev
    have eb : b8 = b := by rw [k3] at u3; cases u3; rfl
    subst eb
    exact ⟨ws8, .inl (.inl u5)⟩
  · -- the slot again
    have hT : T i = a' :: B := g4
    have ow : Own (hid (SF F T) H2) H2 (.ref a') cs (T i) := ⟨a', vs', B, rfl, k2, g3, hT⟩
    have vis4 := s4.vis
    rw [eS] at vis4
    have ow4 : Own (hid (SF (FL F (T i)) T4) H4) H4 (.ref a') cs (T i) := ow.mv vis4 fun x hx => s4.fr x (.inr hx)
    have il4 : i < ρ1.length := (List.getElem?_eq_some_iff.mp hu1).1
    obtain ⟨st5, vis5⟩ := st4.own (i := i) hi0 il4 ow4 nd (fun x hx => st2.off i x hx)
    have eσ : σ.set i (some (.ref a')) = σ := by
      apply List.ext_getElem?
      intro j
      by_cases c : i = j
      · subst c
        rw [List.getElem?_set_self (by rw [st.len]; exact il)]
        exact k1.symm
      · rw [List.getElem?_set_ne c]
    rw [eσ] at st5
    have hi5 : (ρ1.set i (.own cs))[i]? = some (.own cs) := List.getElem?_set_self il4
    obtain ⟨a8, vs8, b8, ws8, u1, u2, u3, u4, u5, u6, f⟩ := st5.writeSub (ds' := ds) hi5 (subAt_eq hd)
    have ea : a8 = a' := by rw [k1] at u1; cases u1; rfl
    subst ea
    have fr4 : H4 a8 = H2 a8 := s4.fr a8 (.inr (by rw [hT]; exact List.mem_cons_self ..))
    have ev : vs8 = vs' := by rw [fr4, k2] at u2; cases u2; rfl
    subst ev
    have eb : b8 = b := by rw [k3] at u3; cases u3; rfl
    subst eb
    have rv5 := rv.ex vis5
    obtain ⟨st6, s6⟩ := f (ws8 ++ [v]) (ds ++ [d]) (u6.append (.cons rv5 .nil))
    rw [List.set_set] at st6
    refine ⟨b8, ws8, v, rfl, rfl, u5, by rw [u6.length]; exact Evl.sz_lt hu2, q σ _ _ st6 ?_⟩
    refine (s2.trans ⟨fun x hx => s4.fr x (.inl hx), vis4.trans vis5⟩).trans s6
/-! ### sorted -/
def insI (x : Int) : List Int → List Int
  | [] => [x]
  | y :: ys => if x ≤ y then x :: y :: ys else y :: insI x ys
def sortI : List Int → List Int
  | [] => []
  | x :: xs => insI x (sortI xs)
theorem insI_perm (x : Int) : ∀ ys : List Int, (insI x ys).Perm (x :: ys)
  | [] => .refl _
  | y :: ys => by
    unfold insI
    by_cases c : x ≤ y
    · rw [if_pos c]
    · rw [if_neg c]
      exact ((insI_perm x ys).cons y).trans (.swap x y ys)
theorem sortI_perm : ∀ xs : List Int, (sortI xs).Perm xs
  | [] => .refl _
  | x :: xs => (insI_perm x _).trans ((sortI_perm xs).cons x)
theorem insI_sorted (x : Int) : ∀ {ys : List Int}, ys.Pairwise (· ≤ ·) → (insI x ys).Pairwise (· ≤ ·)
  | [], _ => by simp [insI]
  | y :: ys, h => by
    unfold insI
    obtain ⟨h1, h2⟩ := List.pairwise_cons.mp h
    by_cases c : x ≤ y
    · rw [if_pos c]
      refine List.pairwise_cons.mpr ⟨fun z hz => ?_, h⟩
      rcases List.mem_cons.mp hz with e | e
      · rw [e]; exact c
      · exact Int.le_trans c (h1 z e)
    · rw [if_neg c]
      refine List.pairwise_cons.mpr ⟨fun z hz => ?_, insI_sorted x h2⟩
      rcases List.mem_cons.mp ((insI_perm x ys).mem_iff.mp hz) with e | e
      · rw [e]; omega
      · exact h1 z e
theorem sortI_sorted : ∀ xs : List Int, (sortI xs).Pairwise (· ≤ ·)
  | [] => .nil
  | x :: xs => insI_sorted x (sortI_sorted xs)
theorem sorted_eq : ∀ {xs ys : List Int}, xs.Perm ys → xs.Pairwise (· ≤ ·) → ys.Pairwise (· ≤ ·) → xs = ys
  | [], ys, p, _, _ => (List.perm_nil.mp p.symm).symm ▸ rfl
  | x :: xs, [], p, _, _ => absurd (List.perm_nil.mp p) (by simp)
  | x :: xs, y :: ys, p, h, h' => by
    obtain ⟨h1, h2⟩ := List.pairwise_cons.mp h
    obtain ⟨h3, h4⟩ := List.pairwise_cons.mp h'
    have e : x = y := by
      have a1 : x ∈ y :: ys := p.mem_iff.mp (List.mem_cons_self ..)
      have a2 : y ∈ x :: xs := p.mem_iff.mpr (List.mem_cons_self ..)
      rcases List.mem_cons.mp a1 with e | e
      · exact e
      · rcases List.mem_cons.mp a2 with f | f
        · exact f.symm
        · exact Int.le_antisymm (h1 y f) (h3 x e)
    subst e
    rw [sorted_eq p.cons_inv h2 h4]
end Uv

namespace Uv
open PySem PySem.Spec PyProof.Rows L2 Srt SrtO
open Evl (Ex)
section
variable {prog : Program} {w : World} {A : Around} {E : Value → Shared → Prop} {s : Shared}
/-- a tuple's items, collected -/
theorem collectT {l : Addr} {vs : List Value} {Q : List Value → Shared → Prop} (tp : s.heap.IsTuple l vs.toArray) (sz : vs.length ≤ sizeLine)
    (k : Q vs { s with heap := (s.heap.push (seqObj "list" #[] 0)).update s.heap.objs.size (Obj.mapSeq (· ++ vs.toArray)) }) : wpAny (model prog w) A (collect (.ref l)) Q E s := by
  obtain ⟨ob, g, c, m, dt⟩ := tp
  have g2 : (s.heap.push (seqObj "list" #[] 0)).get? l = some ob := Heap.get?_push_of_some _ g
  have lo : (s.heap.push (seqObj "list" #[] 0)).get? s.heap.objs.size = some (seqObj "list" #[] 0) := Heap.get?_push_size _ rfl
  unfold collect; refine wpAny_bind (wpAny_runValue (codeAny_builtin entry_proto_collect' ?_))
  show wpAny _ _ (do again (.builtin "list.__iadd__" ⟨[← newList [], .ref l], []⟩)) _ _ s
  refine wpAny_bind (wpAny_newList (wpAny_pure ⟨Code.quiet_builtin _ (by decide +kernel), codeAny_builtin entry_list_iadd' ?_⟩))
  show wpAny _ _ (Builtin.List.listExtendWith (.ref s.heap.objs.size) (.ref l) (.ref s.heap.objs.size)) _ _ { s with heap := s.heap.push (seqObj "list" #[] 0) }
  unfold Builtin.List.listExtendWith; refine wpAny_bind (wpAny_typeOf (T := "tuple") ⟨ob, g2, c⟩ ?_)
  have tt : (Value.type "tuple" == Value.type "tuple") = true := by rfl
  rw [if_pos (by rw [tt, Bool.or_true])]
  refine wpAny_bind (listItems_at g2 dt (wpAny_bind (listItems_at lo rfl ?_)))
  rw [if_neg (by simp)]
  refine wpAny_bind (listUpdate_at lo rfl (wpAny_pure ?_) (Nat.zero_le _) (by show (#[] ++ vs.toArray).size ≤ sizeLine + 1; simp; omega))
  refine wpAny_bind (wpAny_load (get?_update_seq lo _) ?_)
  show wpAny _ _ (pure ((#[] : Array Value) ++ vs.toArray).toList) Q E _
  have z : ((#[] : Array Value) ++ vs.toArray).toList = vs := by simp
  rw [z]; exact wpAny_pure k
/-- sorted(t), t a tuple: the new list at size + 1 -/
theorem sortT {l : Addr} {vs : List Value} {lt : Value → Value → Bool} {Q : Value → Shared → Prop} (O : Swo lt) (tp : s.heap.IsTuple l vs.toArray) (sz : vs.length ≤ sizeLine)
    (ord : 2 ≤ vs.length → ∀ (h₁ : Heap) (a : Addr), h₁.get? a = some (seqObj "list" vs.toArray 0) → (∀ b o, s.heap.get? b = some o → b ≠ a ∧ h₁.get? b = some o) → SortableO prog w A.in1.in1 { s with heap := h₁ } a vs lt)
    (k : ∀ out : List Value, Srtd lt out → Stb lt out vs → Q (.ref (s.heap.objs.size + 1)) { s with heap := sortedAll s.heap vs out.toArray }) : wpAny (model prog w) A (call (.builtin "sorted") [.ref l]) Q E s := by
  obtain ⟨h1, e1⟩ : ∃ h1, h1 = (s.heap.push (seqObj "list" #[] 0)).update s.heap.objs.size (Obj.mapSeq (· ++ vs.toArray)) := ⟨_, rfl⟩
  have z : h1.objs.size = s.heap.objs.size + 1 := by rw [e1, Heap.size_update, size_push']
  have at1 : (h1.push (seqObj "list" vs.toArray 0)).get? (s.heap.objs.size + 1) = some (seqObj "list" vs.toArray 0) := by rw [← z]; exact Heap.get?_push_size _ rfl
  have old : ∀ b o, s.heap.get? b = some o → b ≠ s.heap.objs.size + 1 ∧ (h1.push (seqObj "list" vs.toArray 0)).get? b = some o := fun b o g => by
    have lt' : b < s.heap.objs.size := Heap.lt_size g
    refine ⟨Nat.ne_of_lt (Nat.lt_succ_of_lt lt'), Heap.get?_push_of_some _ ?_⟩
    rw [e1, Heap.get?_update_ne _ _ _ _ (Nat.ne_of_lt lt')]; exact Heap.get?_push_of_some _ g
  refine Calls.call_function_entry kind_sorted plain_sorted entry_sorted (args_sorted1 _) ?_; unfold Builtin.«sorted»
  refine wpAny_bind (m := checkCount "sorted" 1 1 _) (wpAny_pure (wpAny_bind (collectT tp sz (wpAny_bind (wpAny_newList ?_ sz)))))
  rw [← e1]
  show wpAny _ _ _ _ _ { s with heap := h1.push (seqObj "list" vs.toArray 0) }
  rw [z]
  refine wpAny_bind (wpAny_holding (wpAny_call_entry slot_list_sort ⟨_, at1, rfl⟩ entry_list_sort (list_sort_ord O at1 sz (fun h2 => ord h2 _ _ at1 old) fun out c1 c2 => ⟨_, rfl, wpAny_pure ⟨_, rfl, ?_⟩⟩) (args_list_sort _)))
  have kk := k out c1 c2
  unfold sortedAll at kk
  rw [← e1] at kk
  exact kk
end
def rSortedT (K : PySem.W.Frag) : List V → Hp → VK → Prop := fun vs H Q => ∃ (a : Addr) (ns : List Int), vs = [V.ref a] ∧ SqT K H a (ns.map V.int) ∧ ∀ (ms : List Int) (p : Addr), ms.Perm ns → ms.Pairwise (· ≤ ·) → H p = none → Q (.ref p) (upd H p (.lst (ms.map V.int)))
theorem cr_sortedT {X : Cx} : CallR X (.builtin "sorted") (rSortedT X.K) := by
  intro pins s σ H vs us Q I r ⟨a, ns, ev, hq, q⟩
  subst ev
  obtain ⟨its, rv, tp, sz⟩ := I.tuple hq
  rw [Vals.ref1 r]
  have hi := rv.ints
  refine sortT swo_int tp (by rw [← rv.length]; exact sz) (fun h2 h₁ a' _ _ => ints_sortable hi h2) fun out c1 c2 => ?_
  obtain ⟨k1, k2, k3⟩ := ints_out hi c1 c2
  obtain ⟨ep, at1⟩ := PyProof.Rows.sortedAll_at s.heap its out.toArray
  have ll : ((out.map iv).map V.int).length ≤ sizeLine := by rw [List.length_map, k2.length_eq]; rw [List.length_map] at sz; exact sz
  have I2 := I.laid (t' := s.toks) (o := .lst ((out.map iv).map V.int)) (fun _ _ => PyProof.Rows.sortedAll_old) (Nat.le_succ _) (show ObjOk X.prog X.w _ _ _ (.lst _) from ⟨ll, out, ep, vals_of_ints k1, at1⟩)
  exact ⟨.ref _, _, I2, rfl, q _ _ k2 k3 (I.hok.fresh (Nat.le_succ _))⟩
def rSortedU (K : PySem.W.Frag) : List V → Hp → VK → Prop := fun xs H Q => rSortedI K xs H Q ∨ rSortedT K xs H Q
variable [kk : KK]
theorem cr_sortedU {X : Cx} : CallR X (.builtin "sorted") (rSortedU X.K) := CallR.or cr_sortedI cr_sortedT
def sortP : PD → Option PD
  | .list ds => (unI ds).bind fun ns => some (.list ((sortI ns).map PyData.int))
  | .tuple ds => (unI ds).bind fun ns => some (.list ((sortI ns).map PyData.int))
  | _ => none
theorem sc_sort : SC (rSortedU K) (on1 sortP) := sc_on1 fun x z h S H v al rv Q q => by
  have fin : ∀ ns ms : List Int, ms.Perm ns → ms.Pairwise (· ≤ ·) → ms = sortI ns := fun ns ms p o => sorted_eq (p.trans (sortI_perm ns).symm) o (sortI_sorted ns)
  cases rv with
  | lst ha ra =>
    obtain ⟨ns, h1, h2⟩ := bind_some h
    have e := unI_eq h1
    subst e
    have e := ra.ints
    subst e
    cases h2
    refine .inl ⟨_, ns, rfl, .inl (.inl (hid_le _ _ ha)), fun ms p pm so hp => ?_⟩
    have e := fin ns ms pm so
    subst e
    exact q _ _ (Ex.new hp) (.lst (new_ok al hp) (RpAll.ofInts _))
  | tup ha _ ra =>
    obtain ⟨ns, h1, h2⟩ := bind_some h
    have e := unI_eq h1
    subst e
    have e := ra.ints
    subst e
    cases h2
    refine .inr ⟨_, ns, rfl, .inl (.inr ⟨_, hid_le _ _ ha⟩), fun ms p pm so hp => ?_⟩
    have e := fin ns ms pm so
    subst e
    exact q _ _ (Ex.new hp) (.lst (new_ok al hp) (RpAll.ofInts _))
  | _ => cases h
end Uv

namespace Uv
open PySem PySem.Spec PyProof.Rows L2
open Evl (Ex)
variable [kk : KK]
/-! ### new lists by operations -/
abbrev NewL (S : Hs) (H : Hp) (ds : List PD) (Q : VK) : Prop := ∀ p vs H2, Ex H H2 → H p = none → H2 p = some (.lst vs) → RpAll (hid (fun x => x = p ∨ S x) H2) vs ds → Q (.ref p) H2
def RoF (r : R2) (x y : PD) (ds : List PD) : Prop := ∀ S H vx vy, Al S H → Rp (hid S H) vx x → Rp (hid S H) vy y → ∀ Q : VK, NewL S H ds Q → r vx vy H Q
def SOF (r : R2) (f : PD → PD → Option PD) : Prop := ∀ x y z, f x y = some z → ∃ ds, z = .list ds ∧ RoF r x y ds
theorem ex_free {H H1 : Hp} {p : Addr} (e : Ex H H1) (hp : H1 p = none) : H p = none := by
  cases q : H p with
  | none => rfl
  | some o => rw [e _ _ q] at hp; cases hp
section
variable {r : R2} {f : PD → PD → Option PD} {ta tb : TE} {a b : XE}
theorem sef_op (hr : SOF r f) (ha : SE ta a) (hb : SE tb b) : SEF (tOp r ta tb) (xOp f a b) := fun ρ d h => by
  obtain ⟨x, h1, h⟩ := bind_some h
  obtain ⟨y, h2, h⟩ := bind_some h
  obtain ⟨ds, rfl, g⟩ := hr x y d h
  refine ⟨ds, rfl, fun S σ H al en Q q => ha ρ x h1 S σ H al en _ fun v H1 e1 rv => hb ρ y h2 S σ H1 (al.ex e1) (en.ex (hid_ex e1)) _ fun u H2 e2 ru => ?_⟩
  exact g S H2 v u ((al.ex e1).ex e2) (rv.ex (hid_ex e2)) ru Q fun p vs H3 e3 hp h3 ra => q p vs H3 ((e1.trans e2).trans e3) (ex_free (e1.trans e2) hp) h3 ra
/-- a new list of drawn things -/
def wOO (f : PD → PD → Option PD) (a b : XW) : XWO := fun ρ => (a ρ).bind fun x => (b x.2).bind fun y => ((f x.1 y.1).bind asList).bind fun ds => some (ds.map Cel.dat, y.2)
theorem swo_op {a b : XW} (hr : SOF r f) (ha : SW ta a) (hb : SW tb b) : SWO (tOp r ta tb) (wOO f a b) := fun pn F T H σ ρ cs ρ' st e Q q => by
  obtain ⟨⟨x, ρ1⟩, h1, e⟩ := bind_some e
  obtain ⟨⟨y, ρ2⟩, h2, e⟩ := bind_some e
  obtain ⟨ds, h3, e⟩ := bind_some e
  obtain ⟨d, h3, h4⟩ := bind_some h3
  have ed := asList_eq h4
  subst ed
  cases e
  obtain ⟨ds', e', g⟩ := hr _ _ _ h3
  cases e'
  refine ha pn F T H σ ρ x ρ1 st h1 _ fun v T1 H1 st1 s1 rv => hb pn F T1 H1 σ ρ1 y _ st1 h2 _ fun u T2 H2 st2 s2 ru => ?_
  refine g (SF F T2) H2 v u st2.als (rv.ex s2.vis) ru Q fun p vs H3 e3 hp h3 ra => ?_
  obtain ⟨st3, vis⟩ := st2.fresh e3 hp (by rw [h3]; exact fun z => nomatch z)
  have s12 := s1.trans s2
  refine q _ [p] T2 H3 st3 (by simp) (fun x hx => ?_) (fun x hx => ((Stp.ex (T := T2) st2.al e3).fr x hx).trans (s12.fr x hx)) (s12.vis.trans vis) ⟨p, vs, [], rfl, h3, Cels.dats (by rw [SF_FL1]; exact ra), rfl⟩
  have ex : x = p := by simpa using hx
  rw [ex]
  exact st2.al.new hp
end
/-- lists put together -/
def catP : PD → PD → Option PD
  | .list xs, .list ys => if xs.length + ys.length ≤ 100000 then some (.list (xs ++ ys)) else none
  | _, _ => none
theorem sof_cat : SOF (rAddU K) catP := fun x y z h => by
  cases x with
  | list xs =>
    cases y with
    | list ys =>
      have h : (if xs.length + ys.length ≤ 100000 then some (PyData.list (xs ++ ys)) else none) = some z := h
      by_cases c : xs.length + ys.length ≤ 100000
      · rw [if_pos c] at h
        cases h
        refine ⟨_, rfl, fun S H vx vy al rx ry Q q => ?_⟩
        cases rx with
        | lst ha ra =>
          cases ry with
          | lst hb rb => exact .inr (.inl ⟨_, _, _, _, rfl, rfl, hid_le _ _ ha, hid_le _ _ hb, by rw [ra.length, rb.length]; exact Evl.sz_of c, fun p hp => q p _ _ (Ex.new hp) hp upd_same ((ra.append rb).ex (hid_cons (Ex.new hp) hp))⟩)
      · rw [if_neg c] at h; cases h
    | _ => cases h
  | _ => cases h
/-- a list so many times -/
def repP : PD → PD → Option PD
  | .list xs, .int j => if 0 ≤ j ∧ j ≤ 100000 ∧ xs.length * j.toNat ≤ 100000 then some (.list (List.replicate j.toNat xs).flatten) else none
  | _, _ => none
theorem sof_rep : SOF rMulU repP := fun x y z h => by
  cases x with
  | list xs =>
    cases y with
    | int j =>
      have h : (if 0 ≤ j ∧ j ≤ 100000 ∧ xs.length * j.toNat ≤ 100000 then some (PyData.list (List.replicate j.toNat xs).flatten) else none) = some z := h
      by_cases c : 0 ≤ j ∧ j ≤ 100000 ∧ xs.length * j.toNat ≤ 100000
      · rw [if_pos c] at h
        cases h
        refine ⟨_, rfl, fun S H vx vy al rx ry Q q => ?_⟩
        cases rx with
        | lst ha ra =>
          cases ry with
          | int _ =>
            refine .inr ⟨_, _, _, rfl, rfl, hid_le _ _ ha, by omega, by omega, ?_, fun p hp => q p _ _ (Ex.new hp) hp upd_same ((ra.rep j.toNat).ex (hid_cons (Ex.new hp) hp))⟩
            rw [ra.length]
            exact Evl.sz_of c.2.2
      · rw [if_neg c] at h; cases h
    | _ => cases h
  | _ => cases h
/-- a list's part -/
def cutP : PD → Option Int → Option Int → Option PD
  | .list ds, l, h => some (.list (cutD ds l h))
  | .dict [(.none, .list ds)], l, h => some (.list (cutD ds l h))
  | _, _, _ => none
def xCut (a : XE) (lo hi : XO) : XE := fun ρ => (a ρ).bind fun d => (lo ρ).bind fun l => (hi ρ).bind fun h => cutP d l h
theorem sef_cut {ta : TE} {tl th : TO} {a : XE} {lo hi : XO} (ha : SE ta a) (hl : SP tl lo) (hh : SP th hi) : SEF (tSl (rSlU K) ta tl th) (xCut a lo hi) := fun ρ d h => by
  obtain ⟨x, h1, h⟩ := bind_some h
  obtain ⟨l, h2, h⟩ := bind_some h
  obtain ⟨u, h3, h⟩ := bind_some h
  have main : ∀ ds : List PD, (x = .list ds ∨ x = scrD ds) → FrL (tSl (rSlU K) ta tl th) ρ (cutD ds l u) := fun ds hx S σ H al en Q q => by
    refine ha ρ x h1 S σ H al en _ fun v H1 e1 rv => hl ρ l h2 S σ H1 (al.ex e1) (en.ex (hid_ex e1)) _ fun H2 e2 => hh ρ u h3 S σ H2 ((al.ex e1).ex e2) ((en.ex (hid_ex e1)).ex (hid_ex e2)) _ fun H3 e3 => ?_
    have e23 := e2.trans e3
    have e13 := e1.trans e23
    have rv3 := rv.ex (hid_ex (S := S) e23)
    rcases hx with rfl | rfl
    · cases rv3 with
      | lst ha3 ra3 => exact .inl ⟨_, _, rfl, .inl (.inl (hid_le _ _ ha3)), fun p hp => q p _ _ (e13.trans (Ex.new hp)) (ex_free e13 hp) upd_same ((ra3.cut l u).ex (hid_cons (Ex.new hp) hp))⟩
    · cases rv3 with
      | scr hs ra3 => exact .inl ⟨_, _, rfl, sqx hid_le hs, fun p hp => q p _ _ (e13.trans (Ex.new hp)) (ex_free e13 hp) upd_same ((ra3.cut l u).ex (hid_cons (Ex.new hp) hp))⟩
  revert h
  unfold cutP
  split
  · intro h; cases h; exact ⟨_, rfl, main _ (.inl rfl)⟩
  · intro h; cases h; exact ⟨_, rfl, main _ (.inr rfl)⟩
  · intro h; cases h
/-! ### starred things in displays and calls -/
def partsP : PD → Option (List PD)
  | .list ds => some ds
  | .tuple ds => some ds
  | _ => none
def xStar (a : XE) (as : XA) : XA := fun ρ => (a ρ).bind fun x => (partsP x).bind fun xs => (as ρ).bind fun ys => some (xs ++ ys)
theorem parts_at {S : Hs} {H : Hp} {v : V} {x : PD} {xs : List PD} (r : Rp (hid S H) v x) (h : partsP x = some xs) : ∃ p vs, v = .ref p ∧ (SqT K H p vs ∨ SqL K H p vs) ∧ RpAll (hid S H) vs xs := by
  cases r with
  | lst ha ra => cases h; exact ⟨_, _, rfl, .inr (.inl (.inl (hid_le _ _ ha))), ra⟩
  | tup ha pl ra => cases h; exact ⟨_, _, rfl, .inl (.inl (.inr ⟨_, hid_le _ _ ha⟩)), ra⟩
  | _ => cases h
theorem sa_star {ta : TE} {ts : TA} {a : XE} {as : XA} (ha : SE ta a) (hs : SA ts as) : SA (StX.tStar K ta ts) (xStar a as) := fun ρ ds h S σ H al en Q q => by
  obtain ⟨x, h1, h⟩ := bind_some h
  obtain ⟨xs, h2, h⟩ := bind_some h
  obtain ⟨ys, h3, h⟩ := bind_some h
  cases h
  refine ha ρ x h1 S σ H al en _ fun v H1 e1 rv => ?_
  obtain ⟨p, vs, rfl, sq, ra⟩ := parts_at rv h2
  exact ⟨p, vs, rfl, sq, hs ρ ys h3 S σ H1 (al.ex e1) (en.ex (hid_ex e1)) _ fun us H2 e2 ru => q _ H2 (e1.trans e2) ((ra.ex (hid_ex e2)).append ru)⟩
/-! ### x is None, x is True, and not -/
def oIsU : R2 := fun x y H Q => oIsN x y H Q ∨ ∃ b c, x = .bl b ∧ y = .bl c ∧ Q (.bl (b == c)) H
def oNotU : R2 := fun x y H Q => oNotN x y H Q ∨ ∃ b c, x = .bl b ∧ y = .bl c ∧ Q (.bl (b != c)) H
theorem op_isU {X : Cx} : OpR X (compareOp .Is) oIsU := OpR.or op_isN fun pins s σ H x y v u Q I rx ry h => by
  obtain ⟨b, c, rfl, rfl, q⟩ := h
  cases rx
  cases ry
  exact PyProof.Rows.is_bool (fin_bl I q rfl)
theorem op_notU {X : Cx} : OpR X (compareOp .IsNot) oNotU := OpR.or op_notN fun pins s σ H x y v u Q I rx ry h => by
  obtain ⟨b, c, rfl, rfl, q⟩ := h
  cases rx
  cases ry
  exact PyProof.Rows.isnot_bool (fin_bl I q rfl)
def isU : PD → PD → Option PD
  | .bool b, .bool c => some (.bool (b == c))
  | x, .none => some (.bool (isNone x))
  | _, _ => none
def isntU : PD → PD → Option PD
  | .bool b, .bool c => some (.bool (b != c))
  | x, .none => some (.bool (!isNone x))
  | _, _ => none
theorem so_isU : SO oIsU isU := fun x y z h S H vx vy al rx ry Q q => by
  cases ry with
  | non =>
    have e : z = .bool (isNone x) := by cases x <;> (cases h; rfl)
    subst e
    exact .inl ⟨rfl, q _ H (Ex.refl H) (by rw [isNone_of rx]; exact .bl _)⟩
  | bl c =>
    cases rx with
    | bl b => cases h; exact .inr ⟨b, c, rfl, rfl, q _ H (Ex.refl H) (.bl _)⟩
    | _ => cases h
  | _ => cases x <;> cases h
theorem so_isntU : SO oNotU isntU := fun x y z h S H vx vy al rx ry Q q => by
  cases ry with
  | non =>
    have e : z = .bool (!isNone x) := by cases x <;> (cases h; rfl)
    subst e
    exact .inl ⟨rfl, q _ H (Ex.refl H) (by rw [isNone_of rx]; exact .bl _)⟩
  | bl c =>
    cases rx with
    | bl b => cases h; exact .inr ⟨b, c, rfl, rfl, q _ H (Ex.refl H) (.bl _)⟩
    | _ => cases h
  | _ => cases x <;> cases h
/-! ### a def that isn't gone into -/
section
variable {P : Program} {w : World} {mg : Str → Option Value} {base : Heap}
theorem cal_no {x : Str} {st : Stmt} {ps : List Str} {k : Nat} {sp : Sp} (F : Dfn K mg x st ps) (no : ∀ vs H Q E, ¬ sp vs H Q E) : CalG P w K mg base k x sp := by
  obtain ⟨f, fd, F, hm, b⟩ := F.ex
  exact ⟨f, fd, ps, ⟨fun vs H Q E h => (no vs H Q E h).elim, fun A outer s H args us vs Q E _ _ _ _ _ h => (no vs H Q E h).elim⟩, hm, F.kp, b⟩
theorem cal_none {x : Str} {st : Stmt} {ps : List Str} {k : Nat} (F : Dfn K mg x st ps) : CalG P w K mg base k x (spF fun _ => none) := cal_no F fun vs H Q E ⟨_, _, _, _, _, h, _⟩ => nomatch h
theorem cal_noneW {x : Str} {st : Stmt} {ps : List Str} {k : Nat} (F : Dfn K mg x st ps) : CalG P w K mg base k x (spW fun _ _ => none) := cal_no F fun vs H Q E ⟨_, _, _, _, _, _, _, _, _, _, _, _, _, _, h, _⟩ => nomatch h
end
/-- a comprehension within a comprehension -/
theorem rel_open {env : PySem.Env} {names : List (Str × NameKind)} {x : Str} (h : names.lookup x = some .cell ∨ names.lookup x = some .free) :
    (names.map fun (n, k) => if (k == NameKind.free && env.scope.kind == .function && env.kindOf n == some .cell) then (n, NameKind.cell) else (n, k)).lookup x = some .cell ∨
    (names.map fun (n, k) => if (k == NameKind.free && env.scope.kind == .function && env.kindOf n == some .cell) then (n, NameKind.cell) else (n, k)).lookup x = some .free := by
  induction names with
  | nil => rcases h with h | h <;> cases h
  | cons y ys ih =>
    obtain ⟨n, k⟩ := y
    rw [List.map_cons]
    by_cases c : (k == NameKind.free && env.scope.kind == .function && env.kindOf n == some .cell) = true
    · simp only [c, if_true, List.lookup_cons]
      cases e : x == n with
      | true => exact .inl rfl
      | false => rw [List.lookup_cons, e] at h; exact ih h
    · dsimp only
      rw [if_neg c, List.lookup_cons]
      cases e : x == n with
      | true => rw [List.lookup_cons, e] at h; exact h
      | false => rw [List.lookup_cons, e] at h; exact ih h
theorem blkOk_in {X : Cx} {s : Shared} {H : Hp} {sc0 scope : Scope} {cl : List (Str × Addr)} {C : Addr} {fp : List Addr} {N : List Str} {own : List (Str × Nat)} (hN : (X.blk s H sc0 (compEnvC sc0 cl C X.env) fp).N = N) (h : blkC N sc0 scope own = true) :
    BlkOk (X.blk s H sc0 (compEnvC sc0 cl C X.env) fp).N (X.blk s H sc0 (compEnvC sc0 cl C X.env) fp).env.scope scope own := by
  rw [hN]
  have b := blkOk_by h
  exact ⟨b.kind, b.uniq, b.ix, fun y hy e => rel_open (b.free y hy e), b.own⟩
end Uv

namespace Uv
open PySem PySem.Spec PyProof.Rows L2
/-! ### what holds behind a partial value -/
/-- a thing that simp doesn't go into -/
def Tag {α : Type} (x : α) : Type := Unit
def tag {α : Type} (x : α) : Tag x := ()
def wp {α : Type} (o : Option α) {Q : α → Prop} (_ : Tag Q) : Prop := ∃ a, o = some a ∧ Q a
@[simp] theorem wp_some {α : Type} {a : α} {Q : α → Prop} : wp (some a) (tag Q) = Q a := propext ⟨fun ⟨b, e, q⟩ => by cases e; exact q, fun q => ⟨a, rfl, q⟩⟩
@[simp] theorem wp_none {α : Type} {Q : α → Prop} : wp none (tag Q) = False := propext ⟨fun ⟨b, e, q⟩ => (nomatch e), fun q => q.elim⟩
@[simp] theorem wp_bind {α β : Type} {o : Option α} {f : α → Option β} {Q : β → Prop} : wp (o.bind f) (tag Q) = wp o (tag fun a => wp (f a) (tag Q)) := propext (by
  cases o with
  | none => simp
  | some a => simp)
theorem wp_mono {α : Type} {o : Option α} {Q R : α → Prop} (h : wp o (tag Q)) (hq : ∀ a, Q a → R a) : wp o (tag R) := let ⟨a, e, q⟩ := h; ⟨a, e, hq a q⟩
theorem wp_eq {α : Type} {o : Option α} {a : α} : wp o (tag fun x => x = a) ↔ o = some a := ⟨fun ⟨b, e, q⟩ => by rw [e, q], fun e => ⟨a, e, rfl⟩⟩
theorem wp_of {α : Type} {o : Option α} {a : α} {Q : α → Prop} (e : o = some a) (q : Q a) : wp o (tag Q) := ⟨a, e, q⟩
/-- one of two, by a truth; only the truth is looked into -/
def alt {α : Type} (b : Bool) {x y : Option α} (_ : Tag x) (_ : Tag y) : Option α := if b = true then x else y
@[simp] theorem alt_t {α : Type} {x y : Option α} : alt true (tag x) (tag y) = x := (rfl)
@[simp] theorem alt_f {α : Type} {x y : Option α} : alt false (tag x) (tag y) = y := (rfl)
theorem wp_alt {α : Type} {b : Bool} {x y : Option α} {Q : α → Prop} (h1 : b = true → wp x (tag Q)) (h2 : b = false → wp y (tag Q)) : wp (alt b (tag x) (tag y)) (tag Q) := by cases b; exact h2 rfl; exact h1 rfl
theorem wp_altd {α : Type} {c : Prop} [Decidable c] {x y : Option α} {Q : α → Prop} (h1 : c → wp x (tag Q)) (h2 : ¬ c → wp y (tag Q)) : wp (alt (decide c) (tag x) (tag y)) (tag Q) := wp_alt (fun h => h1 (of_decide_eq_true h)) (fun h => h2 (of_decide_eq_false h))
def orO (b : Bool) (x : Option Bool) : Option Bool := if b = true then some true else x
def andO (b : Bool) (x : Option Bool) : Option Bool := if b = true then x else some false
def orV (b : Bool) (x : Option PD) : Option PD := if b = true then some (.bool true) else x
def andV (b : Bool) (x : Option PD) : Option PD := if b = true then x else some (.bool false)
@[simp] theorem orO_s {b c : Bool} : orO b (some c) = some (b || c) := by cases b <;> rfl
@[simp] theorem andO_s {b c : Bool} : andO b (some c) = some (b && c) := by cases b <;> rfl
@[simp] theorem orV_s {b c : Bool} : orV b (some (.bool c)) = some (.bool (b || c)) := by cases b <;> rfl
@[simp] theorem andV_s {b c : Bool} : andV b (some (.bool c)) = some (.bool (b && c)) := by cases b <;> rfl
@[simp] theorem orO_t {x : Option Bool} : orO true x = some true := (rfl)
@[simp] theorem orO_f {x : Option Bool} : orO false x = x := (rfl)
@[simp] theorem andO_t {x : Option Bool} : andO true x = x := (rfl)
@[simp] theorem andO_f {x : Option Bool} : andO false x = some false := (rfl)
@[simp] theorem orV_t {x : Option PD} : orV true x = some (.bool true) := (rfl)
@[simp] theorem orV_f {x : Option PD} : orV false x = x := (rfl)
@[simp] theorem andV_t {x : Option PD} : andV true x = x := (rfl)
@[simp] theorem andV_f {x : Option PD} : andV false x = some (.bool false) := (rfl)
theorem wp_orO {b : Bool} {x : Option Bool} {Q : Bool → Prop} (h1 : b = true → Q true) (h2 : b = false → wp x (tag Q)) : wp (orO b x) (tag Q) := by cases b; exact h2 rfl; simpa using h1 rfl
theorem wp_andO {b : Bool} {x : Option Bool} {Q : Bool → Prop} (h1 : b = true → wp x (tag Q)) (h2 : b = false → Q false) : wp (andO b x) (tag Q) := by cases b; simpa using h2 rfl; exact h1 rfl
theorem wp_orV {b : Bool} {x : Option PD} {Q : PD → Prop} (h1 : b = true → Q (.bool true)) (h2 : b = false → wp x (tag Q)) : wp (orV b x) (tag Q) := by cases b; exact h2 rfl; simpa using h1 rfl
theorem wp_andV {b : Bool} {x : Option PD} {Q : PD → Prop} (h1 : b = true → wp x (tag Q)) (h2 : b = false → Q (.bool false)) : wp (andV b x) (tag Q) := by cases b; simpa using h2 rfl; exact h1 rfl
/-- only where something holds -/
noncomputable def grd {α : Type} (c : Prop) (x : Option α) : Option α := open Classical in if c then x else none
theorem grd_ite {α : Type} {c : Prop} [Decidable c] {x : Option α} : (if c then x else none) = grd c x := by
  unfold grd
  by_cases h : c
  · rw [if_pos h, if_pos h]
  · rw [if_neg h, if_neg h]
theorem grd_pos {α : Type} {c : Prop} {x : Option α} (h : c) : grd c x = x := if_pos h
theorem grd_iff {α : Type} {c c' : Prop} {x : Option α} (h : c ↔ c') : grd c x = grd c' x := by rw [propext h]
@[simp] theorem grd_true {α : Type} {x : Option α} : grd True x = x := grd_pos trivial
@[simp] theorem wp_grd {α : Type} {c : Prop} {x : Option α} {Q : α → Prop} : wp (grd c x) (tag Q) = (c ∧ wp x (tag Q)) := by
  by_cases h : c
  · rw [grd_pos h]; simp [h]
  · unfold grd; rw [if_neg h]; simp [h]
@[simp] theorem bind_some' {α β : Type} {x : α} {f : α → Option β} : (some x).bind f = f x := (rfl)
def seqK (y : XS) : Out → Option Out
  | .nxt ρ => y ρ
  | o => some o
@[simp] theorem q_sSeq {x y : XS} {ρ : Env} : sSeq x y ρ = (x ρ).bind (seqK y) := by
  unfold sSeq
  congr 1
@[simp] theorem seqK_nxt {y : XS} {ρ : Env} : seqK y (.nxt ρ) = y ρ := (rfl)
@[simp] theorem seqK_ret {y : XS} {d : PD} {ρ : Env} : seqK y (.ret d ρ) = some (.ret d ρ) := (rfl)
@[simp] theorem seqK_retO {y : XS} {d : List Cel} {ρ : Env} : seqK y (.retO d ρ) = some (.retO d ρ) := (rfl)
@[simp] theorem seqK_brk {y : XS} {ρ : Env} : seqK y (.brk ρ) = some (.brk ρ) := (rfl)
@[simp] theorem seqK_cnt {y : XS} {ρ : Env} : seqK y (.cnt ρ) = some (.cnt ρ) := (rfl)

/-! ### numbers within bounds; not looked into -/
structure In62 (j : Int) : Prop where
  lo : -(2 ^ 62) ≤ j
  hi : j < 2 ^ 62
structure In63 (j : Int) : Prop where
  lo : -(2 ^ 63) < j
  hi : j < 2 ^ 63
structure In63e (j : Int) : Prop where
  lo : -(2 ^ 63) ≤ j
  hi : j < 2 ^ 63
theorem in63e_nat {n : Nat} (h : n < 1000000000000) : In63e (n : Int) := ⟨by omega, by omega⟩
structure In64 (j : Int) : Prop where
  lo : -(2 ^ 64) < j
  hi : j < 2 ^ 64
theorem in62_nat {n : Nat} (h : n < 1000000000000) : In62 (n : Int) := ⟨by omega, by omega⟩
theorem in63_nat {n : Nat} (h : n < 1000000000000) : In63 (n : Int) := ⟨by omega, by omega⟩
theorem in64_nat {n : Nat} (h : n < 1000000000000) : In64 (n : Int) := ⟨by omega, by omega⟩
/-- a divisor -/
structure Dvr (j : Int) : Prop where
  lo : 0 < j
  hi : j < 2 ^ 64
@[simp] theorem in62_l0 : In62 0 = True := eq_true ⟨by decide, by decide⟩
@[simp] theorem in63_l0 : In63 0 = True := eq_true ⟨by decide, by decide⟩
@[simp] theorem in63e_l0 : In63e 0 = True := eq_true ⟨by decide, by decide⟩
@[simp] theorem in64_l0 : In64 0 = True := eq_true ⟨by decide, by decide⟩
@[simp] theorem in62_l1 : In62 1 = True := eq_true ⟨by decide, by decide⟩
@[simp] theorem in63_l1 : In63 1 = True := eq_true ⟨by decide, by decide⟩
@[simp] theorem in63e_l1 : In63e 1 = True := eq_true ⟨by decide, by decide⟩
@[simp] theorem in64_l1 : In64 1 = True := eq_true ⟨by decide, by decide⟩
@[simp] theorem dvr_l1 : Dvr 1 = True := eq_true ⟨by decide, by decide⟩
@[simp] theorem in62_l2 : In62 2 = True := eq_true ⟨by decide, by decide⟩
@[simp] theorem in63_l2 : In63 2 = True := eq_true ⟨by decide, by decide⟩
@[simp] theorem in63e_l2 : In63e 2 = True := eq_true ⟨by decide, by decide⟩
@[simp] theorem in64_l2 : In64 2 = True := eq_true ⟨by decide, by decide⟩
@[simp] theorem dvr_l2 : Dvr 2 = True := eq_true ⟨by decide, by decide⟩
@[simp] theorem in62_l3 : In62 3 = True := eq_true ⟨by decide, by decide⟩
@[simp] theorem in63_l3 : In63 3 = True := eq_true ⟨by decide, by decide⟩
@[simp] theorem in63e_l3 : In63e 3 = True := eq_true ⟨by decide, by decide⟩
@[simp] theorem in64_l3 : In64 3 = True := eq_true ⟨by decide, by decide⟩
@[simp] theorem dvr_l3 : Dvr 3 = True := eq_true ⟨by decide, by decide⟩
@[simp] theorem in62_l4 : In62 4 = True := eq_true ⟨by decide, by decide⟩
@[simp] theorem in63_l4 : In63 4 = True := eq_true ⟨by decide, by decide⟩
@[simp] theorem in63e_l4 : In63e 4 = True := eq_true ⟨by decide, by decide⟩
@[simp] theorem in64_l4 : In64 4 = True := eq_true ⟨by decide, by decide⟩
@[simp] theorem dvr_l4 : Dvr 4 = True := eq_true ⟨by decide, by decide⟩
@[simp] theorem in62_l5 : In62 5 = True := eq_true ⟨by decide, by decide⟩
@[simp] theorem in63_l5 : In63 5 = True := eq_true ⟨by decide, by decide⟩
@[simp] theorem in63e_l5 : In63e 5 = True := eq_true ⟨by decide, by decide⟩
@[simp] theorem in64_l5 : In64 5 = True := eq_true ⟨by decide, by decide⟩
@[simp] theorem dvr_l5 : Dvr 5 = True := eq_true ⟨by decide, by decide⟩
@[simp] theorem in62_l6 : In62 6 = True := eq_true ⟨by decide, by decide⟩
@[simp] theorem in63_l6 : In63 6 = True := eq_true ⟨by decide, by decide⟩
@[simp] theorem in63e_l6 : In63e 6 = True := eq_true ⟨by decide, by decide⟩
@[simp] theorem in64_l6 : In64 6 = True := eq_true ⟨by decide, by decide⟩
@[simp] theorem dvr_l6 : Dvr 6 = True := eq_true ⟨by decide, by decide⟩
@[simp] theorem in62_l7 : In62 7 = True := eq_true ⟨by decide, by decide⟩
@[simp] theorem in63_l7 : In63 7 = True := eq_true ⟨by decide, by decide⟩
@[simp] theorem in63e_l7 : In63e 7 = True := eq_true ⟨by decide, by decide⟩
@[simp] theorem in64_l7 : In64 7 = True := eq_true ⟨by decide, by decide⟩
@[simp] theorem dvr_l7 : Dvr 7 = True := eq_true ⟨by decide, by decide⟩
@[simp] theorem in62_l8 : In62 8 = True := eq_true ⟨by decide, by decide⟩
@[simp] theorem in63_l8 : In63 8 = True := eq_true ⟨by decide, by decide⟩
@[simp] theorem in63e_l8 : In63e 8 = True := eq_true ⟨by decide, by decide⟩
@[simp] theorem in64_l8 : In64 8 = True := eq_true ⟨by decide, by decide⟩
@[simp] theorem dvr_l8 : Dvr 8 = True := eq_true ⟨by decide, by decide⟩
@[simp] theorem in62_l9 : In62 9 = True := eq_true ⟨by decide, by decide⟩
@[simp] theorem in63_l9 : In63 9 = True := eq_true ⟨by decide, by decide⟩
@[simp] theorem in63e_l9 : In63e 9 = True := eq_true ⟨by decide, by decide⟩
@[simp] theorem in64_l9 : In64 9 = True := eq_true ⟨by decide, by decide⟩
@[simp] theorem dvr_l9 : Dvr 9 = True := eq_true ⟨by decide, by decide⟩
@[simp] theorem in62_l10 : In62 10 = True := eq_true ⟨by decide, by decide⟩
@[simp] theorem in63_l10 : In63 10 = True := eq_true ⟨by decide, by decide⟩
@[simp] theorem in63e_l10 : In63e 10 = True := eq_true ⟨by decide, by decide⟩
@[simp] theorem in64_l10 : In64 10 = True := eq_true ⟨by decide, by decide⟩
@[simp] theorem dvr_l10 : Dvr 10 = True := eq_true ⟨by decide, by decide⟩
@[simp] theorem in62_l11 : In62 11 = True := eq_true ⟨by decide, by decide⟩
@[simp] theorem in63_l11 : In63 11 = True := eq_true ⟨by decide, by decide⟩
@[simp] theorem in63e_l11 : In63e 11 = True := eq_true ⟨by decide, by decide⟩
@[simp] theorem in64_l11 : In64 11 = True := eq_true ⟨by decide, by decide⟩
@[simp] theorem dvr_l11 : Dvr 11 = True := eq_true ⟨by decide, by decide⟩
@[simp] theorem in62_l12 : In62 12 = True := eq_true ⟨by decide, by decide⟩
@[simp] theorem in63_l12 : In63 12 = True := eq_true ⟨by decide, by decide⟩
@[simp] theorem in63e_l12 : In63e 12 = True := eq_true ⟨by decide, by decide⟩
@[simp] theorem in64_l12 : In64 12 = True := eq_true ⟨by decide, by decide⟩
@[simp] theorem dvr_l12 : Dvr 12 = True := eq_true ⟨by decide, by decide⟩
@[simp] theorem in62_l13 : In62 13 = True := eq_true ⟨by decide, by decide⟩
@[simp] theorem in63_l13 : In63 13 = True := eq_true ⟨by decide, by decide⟩
@[simp] theorem in63e_l13 : In63e 13 = True := eq_true ⟨by decide, by decide⟩
@[simp] theorem in64_l13 : In64 13 = True := eq_true ⟨by decide, by decide⟩
@[simp] theorem dvr_l13 : Dvr 13 = True := eq_true ⟨by decide, by decide⟩
@[simp] theorem in62_l14 : In62 14 = True := eq_true ⟨by decide, by decide⟩
@[simp] theorem in63_l14 : In63 14 = True := eq_true ⟨by decide, by decide⟩
@[simp] theorem in63e_l14 : In63e 14 = True := eq_true ⟨by decide, by decide⟩
@[simp] theorem in64_l14 : In64 14 = True := eq_true ⟨by decide, by decide⟩
@[simp] theorem dvr_l14 : Dvr 14 = True := eq_true ⟨by decide, by decide⟩
@[simp] theorem in62_l15 : In62 15 = True := eq_true ⟨by decide, by decide⟩
@[simp] theorem in63_l15 : In63 15 = True := eq_true ⟨by decide, by decide⟩
@[simp] theorem in63e_l15 : In63e 15 = True := eq_true ⟨by decide, by decide⟩
@[simp] theorem in64_l15 : In64 15 = True := eq_true ⟨by decide, by decide⟩
@[simp] theorem dvr_l15 : Dvr 15 = True := eq_true ⟨by decide, by decide⟩
@[simp] theorem in62_l16 : In62 16 = True := eq_true ⟨by decide, by decide⟩
@[simp] theorem in63_l16 : In63 16 = True := eq_true ⟨by decide, by decide⟩
@[simp] theorem in63e_l16 : In63e 16 = True := eq_true ⟨by decide, by decide⟩
@[simp] theorem in64_l16 : In64 16 = True := eq_true ⟨by decide, by decide⟩
@[simp] theorem dvr_l16 : Dvr 16 = True := eq_true ⟨by decide, by decide⟩
@[simp] theorem in62_l17 : In62 17 = True := eq_true ⟨by decide, by decide⟩
@[simp] theorem in63_l17 : In63 17 = True := eq_true ⟨by decide, by decide⟩
@[simp] theorem in63e_l17 : In63e 17 = True := eq_true ⟨by decide, by decide⟩
@[simp] theorem in64_l17 : In64 17 = True := eq_true ⟨by decide, by decide⟩
@[simp] theorem dvr_l17 : Dvr 17 = True := eq_true ⟨by decide, by decide⟩
@[simp] theorem in62_l18 : In62 18 = True := eq_true ⟨by decide, by decide⟩
@[simp] theorem in63_l18 : In63 18 = True := eq_true ⟨by decide, by decide⟩
@[simp] theorem in63e_l18 : In63e 18 = True := eq_true ⟨by decide, by decide⟩
@[simp] theorem in64_l18 : In64 18 = True := eq_true ⟨by decide, by decide⟩
@[simp] theorem dvr_l18 : Dvr 18 = True := eq_true ⟨by decide, by decide⟩
@[simp] theorem in62_l19 : In62 19 = True := eq_true ⟨by decide, by decide⟩
@[simp] theorem in63_l19 : In63 19 = True := eq_true ⟨by decide, by decide⟩
@[simp] theorem in63e_l19 : In63e 19 = True := eq_true ⟨by decide, by decide⟩
@[simp] theorem in64_l19 : In64 19 = True := eq_true ⟨by decide, by decide⟩
@[simp] theorem dvr_l19 : Dvr 19 = True := eq_true ⟨by decide, by decide⟩
@[simp] theorem in62_l20 : In62 20 = True := eq_true ⟨by decide, by decide⟩
@[simp] theorem in63_l20 : In63 20 = True := eq_true ⟨by decide, by decide⟩
@[simp] theorem in63e_l20 : In63e 20 = True := eq_true ⟨by decide, by decide⟩
@[simp] theorem in64_l20 : In64 20 = True := eq_true ⟨by decide, by decide⟩
@[simp] theorem dvr_l20 : Dvr 20 = True := eq_true ⟨by decide, by decide⟩
@[simp] theorem in62_l21 : In62 21 = True := eq_true ⟨by decide, by decide⟩
@[simp] theorem in63_l21 : In63 21 = True := eq_true ⟨by decide, by decide⟩
@[simp] theorem in63e_l21 : In63e 21 = True := eq_true ⟨by decide, by decide⟩
@[simp] theorem in64_l21 : In64 21 = True := eq_true ⟨by decide, by decide⟩
@[simp] theorem dvr_l21 : Dvr 21 = True := eq_true ⟨by decide, by decide⟩
@[simp] theorem in62_l22 : In62 22 = True := eq_true ⟨by decide, by decide⟩
@[simp] theorem in63_l22 : In63 22 = True := eq_true ⟨by decide, by decide⟩
@[simp] theorem in63e_l22 : In63e 22 = True := eq_true ⟨by decide, by decide⟩
@[simp] theorem in64_l22 : In64 22 = True := eq_true ⟨by decide, by decide⟩
@[simp] theorem dvr_l22 : Dvr 22 = True := eq_true ⟨by decide, by decide⟩
@[simp] theorem in62_l23 : In62 23 = True := eq_true ⟨by decide, by decide⟩
@[simp] theorem in63_l23 : In63 23 = True := eq_true ⟨by decide, by decide⟩
@[simp] theorem in63e_l23 : In63e 23 = True := eq_true ⟨by decide, by decide⟩
@[simp] theorem in64_l23 : In64 23 = True := eq_true ⟨by decide, by decide⟩
@[simp] theorem dvr_l23 : Dvr 23 = True := eq_true ⟨by decide, by decide⟩
@[simp] theorem in62_l24 : In62 24 = True := eq_true ⟨by decide, by decide⟩
@[simp] theorem in63_l24 : In63 24 = True := eq_true ⟨by decide, by decide⟩
@[simp] theorem in63e_l24 : In63e 24 = True := eq_true ⟨by decide, by decide⟩
@[simp] theorem in64_l24 : In64 24 = True := eq_true ⟨by decide, by decide⟩
@[simp] theorem dvr_l24 : Dvr 24 = True := eq_true ⟨by decide, by decide⟩
@[simp] theorem in62_l25 : In62 25 = True := eq_true ⟨by decide, by decide⟩
@[simp] theorem in63_l25 : In63 25 = True := eq_true ⟨by decide, by decide⟩
@[simp] theorem in63e_l25 : In63e 25 = True := eq_true ⟨by decide, by decide⟩
@[simp] theorem in64_l25 : In64 25 = True := eq_true ⟨by decide, by decide⟩
@[simp] theorem dvr_l25 : Dvr 25 = True := eq_true ⟨by decide, by decide⟩
@[simp] theorem in62_l26 : In62 26 = True := eq_true ⟨by decide, by decide⟩
@[simp] theorem in63_l26 : In63 26 = True := eq_true ⟨by decide, by decide⟩
@[simp] theorem in63e_l26 : In63e 26 = True := eq_true ⟨by decide, by decide⟩
@[simp] theorem in64_l26 : In64 26 = True := eq_true ⟨by decide, by decide⟩
@[simp] theorem dvr_l26 : Dvr 26 = True := eq_true ⟨by decide, by decide⟩
@[simp] theorem in62_l27 : In62 27 = True := eq_true ⟨by decide, by decide⟩
@[simp] theorem in63_l27 : In63 27 = True := eq_true ⟨by decide, by decide⟩
@[simp] theorem in63e_l27 : In63e 27 = True := eq_true ⟨by decide, by decide⟩
@[simp] theorem in64_l27 : In64 27 = True := eq_true ⟨by decide, by decide⟩
@[simp] theorem dvr_l27 : Dvr 27 = True := eq_true ⟨by decide, by decide⟩
@[simp] theorem in62_l28 : In62 28 = True := eq_true ⟨by decide, by decide⟩
@[simp] theorem in63_l28 : In63 28 = True := eq_true ⟨by decide, by decide⟩
@[simp] theorem in63e_l28 : In63e 28 = True := eq_true ⟨by decide, by decide⟩
@[simp] theorem in64_l28 : In64 28 = True := eq_true ⟨by decide, by decide⟩
@[simp] theorem dvr_l28 : Dvr 28 = True := eq_true ⟨by decide, by decide⟩
@[simp] theorem in62_l29 : In62 29 = True := eq_true ⟨by decide, by decide⟩
@[simp] theorem in63_l29 : In63 29 = True := eq_true ⟨by decide, by decide⟩
@[simp] theorem in63e_l29 : In63e 29 = True := eq_true ⟨by decide, by decide⟩
@[simp] theorem in64_l29 : In64 29 = True := eq_true ⟨by decide, by decide⟩
@[simp] theorem dvr_l29 : Dvr 29 = True := eq_true ⟨by decide, by decide⟩
@[simp] theorem in62_l30 : In62 30 = True := eq_true ⟨by decide, by decide⟩
@[simp] theorem in63_l30 : In63 30 = True := eq_true ⟨by decide, by decide⟩
@[simp] theorem in63e_l30 : In63e 30 = True := eq_true ⟨by decide, by decide⟩
@[simp] theorem in64_l30 : In64 30 = True := eq_true ⟨by decide, by decide⟩
@[simp] theorem dvr_l30 : Dvr 30 = True := eq_true ⟨by decide, by decide⟩
@[simp] theorem in62_l31 : In62 31 = True := eq_true ⟨by decide, by decide⟩
@[simp] theorem in63_l31 : In63 31 = True := eq_true ⟨by decide, by decide⟩
@[simp] theorem in63e_l31 : In63e 31 = True := eq_true ⟨by decide, by decide⟩
@[simp] theorem in64_l31 : In64 31 = True := eq_true ⟨by decide, by decide⟩
@[simp] theorem dvr_l31 : Dvr 31 = True := eq_true ⟨by decide, by decide⟩
@[simp] theorem in62_l32 : In62 32 = True := eq_true ⟨by decide, by decide⟩
@[simp] theorem in63_l32 : In63 32 = True := eq_true ⟨by decide, by decide⟩
@[simp] theorem in63e_l32 : In63e 32 = True := eq_true ⟨by decide, by decide⟩
@[simp] theorem in64_l32 : In64 32 = True := eq_true ⟨by decide, by decide⟩
@[simp] theorem dvr_l32 : Dvr 32 = True := eq_true ⟨by decide, by decide⟩
@[simp] theorem in62_l33 : In62 33 = True := eq_true ⟨by decide, by decide⟩
@[simp] theorem in63_l33 : In63 33 = True := eq_true ⟨by decide, by decide⟩
@[simp] theorem in63e_l33 : In63e 33 = True := eq_true ⟨by decide, by decide⟩
@[simp] theorem in64_l33 : In64 33 = True := eq_true ⟨by decide, by decide⟩
@[simp] theorem dvr_l33 : Dvr 33 = True := eq_true ⟨by decide, by decide⟩
@[simp] theorem in62_l34 : In62 34 = True := eq_true ⟨by decide, by decide⟩
@[simp] theorem in63_l34 : In63 34 = True := eq_true ⟨by decide, by decide⟩
@[simp] theorem in63e_l34 : In63e 34 = True := eq_true ⟨by decide, by decide⟩
@[simp] theorem in64_l34 : In64 34 = True := eq_true ⟨by decide, by decide⟩
@[simp] theorem dvr_l34 : Dvr 34 = True := eq_true ⟨by decide, by decide⟩
@[simp] theorem in62_l35 : In62 35 = True := eq_true ⟨by decide, by decide⟩
@[simp] theorem in63_l35 : In63 35 = True := eq_true ⟨by decide, by decide⟩
@[simp] theorem in63e_l35 : In63e 35 = True := eq_true ⟨by decide, by decide⟩
@[simp] theorem in64_l35 : In64 35 = True := eq_true ⟨by decide, by decide⟩
@[simp] theorem dvr_l35 : Dvr 35 = True := eq_true ⟨by decide, by decide⟩
@[simp] theorem in62_l36 : In62 36 = True := eq_true ⟨by decide, by decide⟩
@[simp] theorem in63_l36 : In63 36 = True := eq_true ⟨by decide, by decide⟩
@[simp] theorem in63e_l36 : In63e 36 = True := eq_true ⟨by decide, by decide⟩
@[simp] theorem in64_l36 : In64 36 = True := eq_true ⟨by decide, by decide⟩
@[simp] theorem dvr_l36 : Dvr 36 = True := eq_true ⟨by decide, by decide⟩
@[simp] theorem in62_l37 : In62 37 = True := eq_true ⟨by decide, by decide⟩
@[simp] theorem in63_l37 : In63 37 = True := eq_true ⟨by decide, by decide⟩
@[simp] theorem in63e_l37 : In63e 37 = True := eq_true ⟨by decide, by decide⟩
@[simp] theorem in64_l37 : In64 37 = True := eq_true ⟨by decide, by decide⟩
@[simp] theorem dvr_l37 : Dvr 37 = True := eq_true ⟨by decide, by decide⟩
@[simp] theorem in62_l38 : In62 38 = True := eq_true ⟨by decide, by decide⟩
@[simp] theorem in63_l38 : In63 38 = True := eq_true ⟨by decide, by decide⟩
@[simp] theorem in63e_l38 : In63e 38 = True := eq_true ⟨by decide, by decide⟩
@[simp] theorem in64_l38 : In64 38 = True := eq_true ⟨by decide, by decide⟩
@[simp] theorem dvr_l38 : Dvr 38 = True := eq_true ⟨by decide, by decide⟩
@[simp] theorem in62_l39 : In62 39 = True := eq_true ⟨by decide, by decide⟩
@[simp] theorem in63_l39 : In63 39 = True := eq_true ⟨by decide, by decide⟩
@[simp] theorem in63e_l39 : In63e 39 = True := eq_true ⟨by decide, by decide⟩
@[simp] theorem in64_l39 : In64 39 = True := eq_true ⟨by decide, by decide⟩
@[simp] theorem dvr_l39 : Dvr 39 = True := eq_true ⟨by decide, by decide⟩
@[simp] theorem in62_l40 : In62 40 = True := eq_true ⟨by decide, by decide⟩
@[simp] theorem in63_l40 : In63 40 = True := eq_true ⟨by decide, by decide⟩
@[simp] theorem in63e_l40 : In63e 40 = True := eq_true ⟨by decide, by decide⟩
@[simp] theorem in64_l40 : In64 40 = True := eq_true ⟨by decide, by decide⟩
@[simp] theorem dvr_l40 : Dvr 40 = True := eq_true ⟨by decide, by decide⟩
@[simp] theorem in62_l41 : In62 41 = True := eq_true ⟨by decide, by decide⟩
@[simp] theorem in63_l41 : In63 41 = True := eq_true ⟨by decide, by decide⟩
@[simp] theorem in63e_l41 : In63e 41 = True := eq_true ⟨by decide, by decide⟩
@[simp] theorem in64_l41 : In64 41 = True := eq_true ⟨by decide, by decide⟩
@[simp] theorem dvr_l41 : Dvr 41 = True := eq_true ⟨by decide, by decide⟩
@[simp] theorem in62_l42 : In62 42 = True := eq_true ⟨by decide, by decide⟩
@[simp] theorem in63_l42 : In63 42 = True := eq_true ⟨by decide, by decide⟩
@[simp] theorem in63e_l42 : In63e 42 = True := eq_true ⟨by decide, by decide⟩
@[simp] theorem in64_l42 : In64 42 = True := eq_true ⟨by decide, by decide⟩
@[simp] theorem dvr_l42 : Dvr 42 = True := eq_true ⟨by decide, by decide⟩
@[simp] theorem in62_l43 : In62 43 = True := eq_true ⟨by decide, by decide⟩
@[simp] theorem in63_l43 : In63 43 = True := eq_true ⟨by decide, by decide⟩
@[simp] theorem in63e_l43 : In63e 43 = True := eq_true ⟨by decide, by decide⟩
@[simp] theorem in64_l43 : In64 43 = True := eq_true ⟨by decide, by decide⟩
@[simp] theorem dvr_l43 : Dvr 43 = True := eq_true ⟨by decide, by decide⟩
@[simp] theorem in62_l44 : In62 44 = True := eq_true ⟨by decide, by decide⟩
@[simp] theorem in63_l44 : In63 44 = True := eq_true ⟨by decide, by decide⟩
@[simp] theorem in63e_l44 : In63e 44 = True := eq_true ⟨by decide, by decide⟩
@[simp] theorem in64_l44 : In64 44 = True := eq_true ⟨by decide, by decide⟩
@[simp] theorem dvr_l44 : Dvr 44 = True := eq_true ⟨by decide, by decide⟩
@[simp] theorem in62_l45 : In62 45 = True := eq_true ⟨by decide, by decide⟩
@[simp] theorem in63_l45 : In63 45 = True := eq_true ⟨by decide, by decide⟩
@[simp] theorem in63e_l45 : In63e 45 = True := eq_true ⟨by decide, by decide⟩
@[simp] theorem in64_l45 : In64 45 = True := eq_true ⟨by decide, by decide⟩
@[simp] theorem dvr_l45 : Dvr 45 = True := eq_true ⟨by decide, by decide⟩
@[simp] theorem in62_l46 : In62 46 = True := eq_true ⟨by decide, by decide⟩
@[simp] theorem in63_l46 : In63 46 = True := eq_true ⟨by decide, by decide⟩
@[simp] theorem in63e_l46 : In63e 46 = True := eq_true ⟨by decide, by decide⟩
@[simp] theorem in64_l46 : In64 46 = True := eq_true ⟨by decide, by decide⟩
@[simp] theorem dvr_l46 : Dvr 46 = True := eq_true ⟨by decide, by decide⟩
@[simp] theorem in62_l47 : In62 47 = True := eq_true ⟨by decide, by decide⟩
@[simp] theorem in63_l47 : In63 47 = True := eq_true ⟨by decide, by decide⟩
@[simp] theorem in63e_l47 : In63e 47 = True := eq_true ⟨by decide, by decide⟩
@[simp] theorem in64_l47 : In64 47 = True := eq_true ⟨by decide, by decide⟩
@[simp] theorem dvr_l47 : Dvr 47 = True := eq_true ⟨by decide, by decide⟩
@[simp] theorem in62_l48 : In62 48 = True := eq_true ⟨by decide, by decide⟩
@[simp] theorem in63_l48 : In63 48 = True := eq_true ⟨by decide, by decide⟩
@[simp] theorem in63e_l48 : In63e 48 = True := eq_true ⟨by decide, by decide⟩
@[simp] theorem in64_l48 : In64 48 = True := eq_true ⟨by decide, by decide⟩
@[simp] theorem dvr_l48 : Dvr 48 = True := eq_true ⟨by decide, by decide⟩
@[simp] theorem in62_l49 : In62 49 = True := eq_true ⟨by decide, by decide⟩
@[simp] theorem in63_l49 : In63 49 = True := eq_true ⟨by decide, by decide⟩
@[simp] theorem in63e_l49 : In63e 49 = True := eq_true ⟨by decide, by decide⟩
@[simp] theorem in64_l49 : In64 49 = True := eq_true ⟨by decide, by decide⟩
@[simp] theorem dvr_l49 : Dvr 49 = True := eq_true ⟨by decide, by decide⟩
@[simp] theorem in62_l50 : In62 50 = True := eq_true ⟨by decide, by decide⟩
@[simp] theorem in63_l50 : In63 50 = True := eq_true ⟨by decide, by decide⟩
@[simp] theorem in63e_l50 : In63e 50 = True := eq_true ⟨by decide, by decide⟩
@[simp] theorem in64_l50 : In64 50 = True := eq_true ⟨by decide, by decide⟩
@[simp] theorem dvr_l50 : Dvr 50 = True := eq_true ⟨by decide, by decide⟩
@[simp] theorem in62_l51 : In62 51 = True := eq_true ⟨by decide, by decide⟩
@[simp] theorem in63_l51 : In63 51 = True := eq_true ⟨by decide, by decide⟩
@[simp] theorem in63e_l51 : In63e 51 = True := eq_true ⟨by decide, by decide⟩
@[simp] theorem in64_l51 : In64 51 = True := eq_true ⟨by decide, by decide⟩
@[simp] theorem dvr_l51 : Dvr 51 = True := eq_true ⟨by decide, by decide⟩
@[simp] theorem in62_l52 : In62 52 = True := eq_true ⟨by decide, by decide⟩
@[simp] theorem in63_l52 : In63 52 = True := eq_true ⟨by decide, by decide⟩
@[simp] theorem in63e_l52 : In63e 52 = True := eq_true ⟨by decide, by decide⟩
@[simp] theorem in64_l52 : In64 52 = True := eq_true ⟨by decide, by decide⟩
@[simp] theorem dvr_l52 : Dvr 52 = True := eq_true ⟨by decide, by decide⟩
@[simp] theorem in62_l53 : In62 53 = True := eq_true ⟨by decide, by decide⟩
@[simp] theorem in63_l53 : In63 53 = True := eq_true ⟨by decide, by decide⟩
@[simp] theorem in63e_l53 : In63e 53 = True := eq_true ⟨by decide, by decide⟩
@[simp] theorem in64_l53 : In64 53 = True := eq_true ⟨by decide, by decide⟩
@[simp] theorem dvr_l53 : Dvr 53 = True := eq_true ⟨by decide, by decide⟩
@[simp] theorem in62_l54 : In62 54 = True := eq_true ⟨by decide, by decide⟩
@[simp] theorem in63_l54 : In63 54 = True := eq_true ⟨by decide, by decide⟩
@[simp] theorem in63e_l54 : In63e 54 = True := eq_true ⟨by decide, by decide⟩
@[simp] theorem in64_l54 : In64 54 = True := eq_true ⟨by decide, by decide⟩
@[simp] theorem dvr_l54 : Dvr 54 = True := eq_true ⟨by decide, by decide⟩
@[simp] theorem in62_l55 : In62 55 = True := eq_true ⟨by decide, by decide⟩
@[simp] theorem in63_l55 : In63 55 = True := eq_true ⟨by decide, by decide⟩
@[simp] theorem in63e_l55 : In63e 55 = True := eq_true ⟨by decide, by decide⟩
@[simp] theorem in64_l55 : In64 55 = True := eq_true ⟨by decide, by decide⟩
@[simp] theorem dvr_l55 : Dvr 55 = True := eq_true ⟨by decide, by decide⟩
@[simp] theorem in62_l56 : In62 56 = True := eq_true ⟨by decide, by decide⟩
@[simp] theorem in63_l56 : In63 56 = True := eq_true ⟨by decide, by decide⟩
@[simp] theorem in63e_l56 : In63e 56 = True := eq_true ⟨by decide, by decide⟩
@[simp] theorem in64_l56 : In64 56 = True := eq_true ⟨by decide, by decide⟩
@[simp] theorem dvr_l56 : Dvr 56 = True := eq_true ⟨by decide, by decide⟩
@[simp] theorem in62_l57 : In62 57 = True := eq_true ⟨by decide, by decide⟩
@[simp] theorem in63_l57 : In63 57 = True := eq_true ⟨by decide, by decide⟩
@[simp] theorem in63e_l57 : In63e 57 = True := eq_true ⟨by decide, by decide⟩
@[simp] theorem in64_l57 : In64 57 = True := eq_true ⟨by decide, by decide⟩
@[simp] theorem dvr_l57 : Dvr 57 = True := eq_true ⟨by decide, by decide⟩
@[simp] theorem in62_l58 : In62 58 = True := eq_true ⟨by decide, by decide⟩
@[simp] theorem in63_l58 : In63 58 = True := eq_true ⟨by decide, by decide⟩
@[simp] theorem in63e_l58 : In63e 58 = True := eq_true ⟨by decide, by decide⟩
@[simp] theorem in64_l58 : In64 58 = True := eq_true ⟨by decide, by decide⟩
@[simp] theorem dvr_l58 : Dvr 58 = True := eq_true ⟨by decide, by decide⟩
@[simp] theorem in62_l59 : In62 59 = True := eq_true ⟨by decide, by decide⟩
@[simp] theorem in63_l59 : In63 59 = True := eq_true ⟨by decide, by decide⟩
@[simp] theorem in63e_l59 : In63e 59 = True := eq_true ⟨by decide, by decide⟩
@[simp] theorem in64_l59 : In64 59 = True := eq_true ⟨by decide, by decide⟩
@[simp] theorem dvr_l59 : Dvr 59 = True := eq_true ⟨by decide, by decide⟩
@[simp] theorem in62_l60 : In62 60 = True := eq_true ⟨by decide, by decide⟩
@[simp] theorem in63_l60 : In63 60 = True := eq_true ⟨by decide, by decide⟩
@[simp] theorem in63e_l60 : In63e 60 = True := eq_true ⟨by decide, by decide⟩
@[simp] theorem in64_l60 : In64 60 = True := eq_true ⟨by decide, by decide⟩
@[simp] theorem dvr_l60 : Dvr 60 = True := eq_true ⟨by decide, by decide⟩
@[simp] theorem in62_l61 : In62 61 = True := eq_true ⟨by decide, by decide⟩
@[simp] theorem in63_l61 : In63 61 = True := eq_true ⟨by decide, by decide⟩
@[simp] theorem in63e_l61 : In63e 61 = True := eq_true ⟨by decide, by decide⟩
@[simp] theorem in64_l61 : In64 61 = True := eq_true ⟨by decide, by decide⟩
@[simp] theorem dvr_l61 : Dvr 61 = True := eq_true ⟨by decide, by decide⟩
@[simp] theorem in62_l62 : In62 62 = True := eq_true ⟨by decide, by decide⟩
@[simp] theorem in63_l62 : In63 62 = True := eq_true ⟨by decide, by decide⟩
@[simp] theorem in63e_l62 : In63e 62 = True := eq_true ⟨by decide, by decide⟩
@[simp] theorem in64_l62 : In64 62 = True := eq_true ⟨by decide, by decide⟩
@[simp] theorem dvr_l62 : Dvr 62 = True := eq_true ⟨by decide, by decide⟩
@[simp] theorem in62_l63 : In62 63 = True := eq_true ⟨by decide, by decide⟩
@[simp] theorem in63_l63 : In63 63 = True := eq_true ⟨by decide, by decide⟩
@[simp] theorem in63e_l63 : In63e 63 = True := eq_true ⟨by decide, by decide⟩
@[simp] theorem in64_l63 : In64 63 = True := eq_true ⟨by decide, by decide⟩
@[simp] theorem dvr_l63 : Dvr 63 = True := eq_true ⟨by decide, by decide⟩
@[simp] theorem in62_l64 : In62 64 = True := eq_true ⟨by decide, by decide⟩
@[simp] theorem in63_l64 : In63 64 = True := eq_true ⟨by decide, by decide⟩
@[simp] theorem in63e_l64 : In63e 64 = True := eq_true ⟨by decide, by decide⟩
@[simp] theorem in64_l64 : In64 64 = True := eq_true ⟨by decide, by decide⟩
@[simp] theorem dvr_l64 : Dvr 64 = True := eq_true ⟨by decide, by decide⟩
@[simp] theorem in62_l70 : In62 70 = True := eq_true ⟨by decide, by decide⟩
@[simp] theorem in63_l70 : In63 70 = True := eq_true ⟨by decide, by decide⟩
@[simp] theorem in63e_l70 : In63e 70 = True := eq_true ⟨by decide, by decide⟩
@[simp] theorem in64_l70 : In64 70 = True := eq_true ⟨by decide, by decide⟩
@[simp] theorem dvr_l70 : Dvr 70 = True := eq_true ⟨by decide, by decide⟩
@[simp] theorem in62_l200 : In62 200 = True := eq_true ⟨by decide, by decide⟩
@[simp] theorem in63_l200 : In63 200 = True := eq_true ⟨by decide, by decide⟩
@[simp] theorem in63e_l200 : In63e 200 = True := eq_true ⟨by decide, by decide⟩
@[simp] theorem in64_l200 : In64 200 = True := eq_true ⟨by decide, by decide⟩
@[simp] theorem dvr_l200 : Dvr 200 = True := eq_true ⟨by decide, by decide⟩
@[simp] theorem in62_l300 : In62 300 = True := eq_true ⟨by decide, by decide⟩
@[simp] theorem in63_l300 : In63 300 = True := eq_true ⟨by decide, by decide⟩
@[simp] theorem in63e_l300 : In63e 300 = True := eq_true ⟨by decide, by decide⟩
@[simp] theorem in64_l300 : In64 300 = True := eq_true ⟨by decide, by decide⟩
@[simp] theorem dvr_l300 : Dvr 300 = True := eq_true ⟨by decide, by decide⟩
@[simp] theorem in62_l400 : In62 400 = True := eq_true ⟨by decide, by decide⟩
@[simp] theorem in63_l400 : In63 400 = True := eq_true ⟨by decide, by decide⟩
@[simp] theorem in63e_l400 : In63e 400 = True := eq_true ⟨by decide, by decide⟩
@[simp] theorem in64_l400 : In64 400 = True := eq_true ⟨by decide, by decide⟩
@[simp] theorem dvr_l400 : Dvr 400 = True := eq_true ⟨by decide, by decide⟩
@[simp] theorem in62_l600 : In62 600 = True := eq_true ⟨by decide, by decide⟩
@[simp] theorem in63_l600 : In63 600 = True := eq_true ⟨by decide, by decide⟩
@[simp] theorem in63e_l600 : In63e 600 = True := eq_true ⟨by decide, by decide⟩
@[simp] theorem in64_l600 : In64 600 = True := eq_true ⟨by decide, by decide⟩
@[simp] theorem dvr_l600 : Dvr 600 = True := eq_true ⟨by decide, by decide⟩
@[simp] theorem in62_l700 : In62 700 = True := eq_true ⟨by decide, by decide⟩
@[simp] theorem in63_l700 : In63 700 = True := eq_true ⟨by decide, by decide⟩
@[simp] theorem in63e_l700 : In63e 700 = True := eq_true ⟨by decide, by decide⟩
@[simp] theorem in64_l700 : In64 700 = True := eq_true ⟨by decide, by decide⟩
@[simp] theorem dvr_l700 : Dvr 700 = True := eq_true ⟨by decide, by decide⟩
@[simp] theorem in62_l729 : In62 729 = True := eq_true ⟨by decide, by decide⟩
@[simp] theorem in63_l729 : In63 729 = True := eq_true ⟨by decide, by decide⟩
@[simp] theorem in63e_l729 : In63e 729 = True := eq_true ⟨by decide, by decide⟩
@[simp] theorem in64_l729 : In64 729 = True := eq_true ⟨by decide, by decide⟩
@[simp] theorem dvr_l729 : Dvr 729 = True := eq_true ⟨by decide, by decide⟩
@[simp] theorem in62_l924 : In62 924 = True := eq_true ⟨by decide, by decide⟩
@[simp] theorem in63_l924 : In63 924 = True := eq_true ⟨by decide, by decide⟩
@[simp] theorem in63e_l924 : In63e 924 = True := eq_true ⟨by decide, by decide⟩
@[simp] theorem in64_l924 : In64 924 = True := eq_true ⟨by decide, by decide⟩
@[simp] theorem dvr_l924 : Dvr 924 = True := eq_true ⟨by decide, by decide⟩
@[simp] theorem in62_l1000 : In62 1000 = True := eq_true ⟨by decide, by decide⟩
@[simp] theorem in63_l1000 : In63 1000 = True := eq_true ⟨by decide, by decide⟩
@[simp] theorem in63e_l1000 : In63e 1000 = True := eq_true ⟨by decide, by decide⟩
@[simp] theorem in64_l1000 : In64 1000 = True := eq_true ⟨by decide, by decide⟩
@[simp] theorem dvr_l1000 : Dvr 1000 = True := eq_true ⟨by decide, by decide⟩
@[simp] theorem in62_l3000 : In62 3000 = True := eq_true ⟨by decide, by decide⟩
@[simp] theorem in63_l3000 : In63 3000 = True := eq_true ⟨by decide, by decide⟩
@[simp] theorem in63e_l3000 : In63e 3000 = True := eq_true ⟨by decide, by decide⟩
@[simp] theorem in64_l3000 : In64 3000 = True := eq_true ⟨by decide, by decide⟩
@[simp] theorem dvr_l3000 : Dvr 3000 = True := eq_true ⟨by decide, by decide⟩
@[simp] theorem in62_l4096 : In62 4096 = True := eq_true ⟨by decide, by decide⟩
@[simp] theorem in63_l4096 : In63 4096 = True := eq_true ⟨by decide, by decide⟩
@[simp] theorem in63e_l4096 : In63e 4096 = True := eq_true ⟨by decide, by decide⟩
@[simp] theorem in64_l4096 : In64 4096 = True := eq_true ⟨by decide, by decide⟩
@[simp] theorem dvr_l4096 : Dvr 4096 = True := eq_true ⟨by decide, by decide⟩
@[simp] theorem in62_l7919 : In62 7919 = True := eq_true ⟨by decide, by decide⟩
@[simp] theorem in63_l7919 : In63 7919 = True := eq_true ⟨by decide, by decide⟩
@[simp] theorem in63e_l7919 : In63e 7919 = True := eq_true ⟨by decide, by decide⟩
@[simp] theorem in64_l7919 : In64 7919 = True := eq_true ⟨by decide, by decide⟩
@[simp] theorem dvr_l7919 : Dvr 7919 = True := eq_true ⟨by decide, by decide⟩
@[simp] theorem in62_l10007 : In62 10007 = True := eq_true ⟨by decide, by decide⟩
@[simp] theorem in63_l10007 : In63 10007 = True := eq_true ⟨by decide, by decide⟩
@[simp] theorem in63e_l10007 : In63e 10007 = True := eq_true ⟨by decide, by decide⟩
@[simp] theorem in64_l10007 : In64 10007 = True := eq_true ⟨by decide, by decide⟩
@[simp] theorem dvr_l10007 : Dvr 10007 = True := eq_true ⟨by decide, by decide⟩
@[simp] theorem in62_l30011 : In62 30011 = True := eq_true ⟨by decide, by decide⟩
@[simp] theorem in63_l30011 : In63 30011 = True := eq_true ⟨by decide, by decide⟩
@[simp] theorem in63e_l30011 : In63e 30011 = True := eq_true ⟨by decide, by decide⟩
@[simp] theorem in64_l30011 : In64 30011 = True := eq_true ⟨by decide, by decide⟩
@[simp] theorem dvr_l30011 : Dvr 30011 = True := eq_true ⟨by decide, by decide⟩
@[simp] theorem in62_l40503 : In62 40503 = True := eq_true ⟨by decide, by decide⟩
@[simp] theorem in63_l40503 : In63 40503 = True := eq_true ⟨by decide, by decide⟩
@[simp] theorem in63e_l40503 : In63e 40503 = True := eq_true ⟨by decide, by decide⟩
@[simp] theorem in64_l40503 : In64 40503 = True := eq_true ⟨by decide, by decide⟩
@[simp] theorem dvr_l40503 : Dvr 40503 = True := eq_true ⟨by decide, by decide⟩
@[simp] theorem in62_l40692 : In62 40692 = True := eq_true ⟨by decide, by decide⟩
@[simp] theorem in63_l40692 : In63 40692 = True := eq_true ⟨by decide, by decide⟩
@[simp] theorem in63e_l40692 : In63e 40692 = True := eq_true ⟨by decide, by decide⟩
@[simp] theorem in64_l40692 : In64 40692 = True := eq_true ⟨by decide, by decide⟩
@[simp] theorem dvr_l40692 : Dvr 40692 = True := eq_true ⟨by decide, by decide⟩
@[simp] theorem in62_l48271 : In62 48271 = True := eq_true ⟨by decide, by decide⟩
@[simp] theorem in63_l48271 : In63 48271 = True := eq_true ⟨by decide, by decide⟩
@[simp] theorem in63e_l48271 : In63e 48271 = True := eq_true ⟨by decide, by decide⟩
@[simp] theorem in64_l48271 : In64 48271 = True := eq_true ⟨by decide, by decide⟩
@[simp] theorem dvr_l48271 : Dvr 48271 = True := eq_true ⟨by decide, by decide⟩
@[simp] theorem in62_l69621 : In62 69621 = True := eq_true ⟨by decide, by decide⟩
@[simp] theorem in63_l69621 : In63 69621 = True := eq_true ⟨by decide, by decide⟩
@[simp] theorem in63e_l69621 : In63e 69621 = True := eq_true ⟨by decide, by decide⟩
@[simp] theorem in64_l69621 : In64 69621 = True := eq_true ⟨by decide, by decide⟩
@[simp] theorem dvr_l69621 : Dvr 69621 = True := eq_true ⟨by decide, by decide⟩
@[simp] theorem in62_l1000000 : In62 1000000 = True := eq_true ⟨by decide, by decide⟩
@[simp] theorem in63_l1000000 : In63 1000000 = True := eq_true ⟨by decide, by decide⟩
@[simp] theorem in63e_l1000000 : In63e 1000000 = True := eq_true ⟨by decide, by decide⟩
@[simp] theorem in64_l1000000 : In64 1000000 = True := eq_true ⟨by decide, by decide⟩
@[simp] theorem dvr_l1000000 : Dvr 1000000 = True := eq_true ⟨by decide, by decide⟩
@[simp] theorem in62_l1000003 : In62 1000003 = True := eq_true ⟨by decide, by decide⟩
@[simp] theorem in63_l1000003 : In63 1000003 = True := eq_true ⟨by decide, by decide⟩
@[simp] theorem in63e_l1000003 : In63e 1000003 = True := eq_true ⟨by decide, by decide⟩
@[simp] theorem in64_l1000003 : In64 1000003 = True := eq_true ⟨by decide, by decide⟩
@[simp] theorem dvr_l1000003 : Dvr 1000003 = True := eq_true ⟨by decide, by decide⟩
@[simp] theorem in62_l2147483587 : In62 2147483587 = True := eq_true ⟨by decide, by decide⟩
@[simp] theorem in63_l2147483587 : In63 2147483587 = True := eq_true ⟨by decide, by decide⟩
@[simp] theorem in63e_l2147483587 : In63e 2147483587 = True := eq_true ⟨by decide, by decide⟩
@[simp] theorem in64_l2147483587 : In64 2147483587 = True := eq_true ⟨by decide, by decide⟩
@[simp] theorem dvr_l2147483587 : Dvr 2147483587 = True := eq_true ⟨by decide, by decide⟩
@[simp] theorem in62_l2147483629 : In62 2147483629 = True := eq_true ⟨by decide, by decide⟩
@[simp] theorem in63_l2147483629 : In63 2147483629 = True := eq_true ⟨by decide, by decide⟩
@[simp] theorem in63e_l2147483629 : In63e 2147483629 = True := eq_true ⟨by decide, by decide⟩
@[simp] theorem in64_l2147483629 : In64 2147483629 = True := eq_true ⟨by decide, by decide⟩
@[simp] theorem dvr_l2147483629 : Dvr 2147483629 = True := eq_true ⟨by decide, by decide⟩
@[simp] theorem in62_l2147483647 : In62 2147483647 = True := eq_true ⟨by decide, by decide⟩
@[simp] theorem in63_l2147483647 : In63 2147483647 = True := eq_true ⟨by decide, by decide⟩
@[simp] theorem in63e_l2147483647 : In63e 2147483647 = True := eq_true ⟨by decide, by decide⟩
@[simp] theorem in64_l2147483647 : In64 2147483647 = True := eq_true ⟨by decide, by decide⟩
@[simp] theorem dvr_l2147483647 : Dvr 2147483647 = True := eq_true ⟨by decide, by decide⟩
@[simp] theorem in62_l100000000000 : In62 100000000000 = True := eq_true ⟨by decide, by decide⟩
@[simp] theorem in63_l100000000000 : In63 100000000000 = True := eq_true ⟨by decide, by decide⟩
@[simp] theorem in63e_l100000000000 : In63e 100000000000 = True := eq_true ⟨by decide, by decide⟩
@[simp] theorem in64_l100000000000 : In64 100000000000 = True := eq_true ⟨by decide, by decide⟩
@[simp] theorem dvr_l100000000000 : Dvr 100000000000 = True := eq_true ⟨by decide, by decide⟩
@[simp] theorem in62_l1000000000000 : In62 1000000000000 = True := eq_true ⟨by decide, by decide⟩
@[simp] theorem in63_l1000000000000 : In63 1000000000000 = True := eq_true ⟨by decide, by decide⟩
@[simp] theorem in63e_l1000000000000 : In63e 1000000000000 = True := eq_true ⟨by decide, by decide⟩
@[simp] theorem in64_l1000000000000 : In64 1000000000000 = True := eq_true ⟨by decide, by decide⟩
@[simp] theorem dvr_l1000000000000 : Dvr 1000000000000 = True := eq_true ⟨by decide, by decide⟩
@[simp] theorem in62_l10000000000000 : In62 10000000000000 = True := eq_true ⟨by decide, by decide⟩
@[simp] theorem in63_l10000000000000 : In63 10000000000000 = True := eq_true ⟨by decide, by decide⟩
@[simp] theorem in63e_l10000000000000 : In63e 10000000000000 = True := eq_true ⟨by decide, by decide⟩
@[simp] theorem in64_l10000000000000 : In64 10000000000000 = True := eq_true ⟨by decide, by decide⟩
@[simp] theorem dvr_l10000000000000 : Dvr 10000000000000 = True := eq_true ⟨by decide, by decide⟩
@[simp] theorem in62_l100000000000000 : In62 100000000000000 = True := eq_true ⟨by decide, by decide⟩
@[simp] theorem in63_l100000000000000 : In63 100000000000000 = True := eq_true ⟨by decide, by decide⟩
@[simp] theorem in63e_l100000000000000 : In63e 100000000000000 = True := eq_true ⟨by decide, by decide⟩
@[simp] theorem in64_l100000000000000 : In64 100000000000000 = True := eq_true ⟨by decide, by decide⟩
@[simp] theorem dvr_l100000000000000 : Dvr 100000000000000 = True := eq_true ⟨by decide, by decide⟩
@[simp] theorem in62_l1000000000000000 : In62 1000000000000000 = True := eq_true ⟨by decide, by decide⟩
@[simp] theorem in63_l1000000000000000 : In63 1000000000000000 = True := eq_true ⟨by decide, by decide⟩
@[simp] theorem in63e_l1000000000000000 : In63e 1000000000000000 = True := eq_true ⟨by decide, by decide⟩
@[simp] theorem in64_l1000000000000000 : In64 1000000000000000 = True := eq_true ⟨by decide, by decide⟩
@[simp] theorem dvr_l1000000000000000 : Dvr 1000000000000000 = True := eq_true ⟨by decide, by decide⟩
@[simp] theorem in62_l1000000000000000000 : In62 1000000000000000000 = True := eq_true ⟨by decide, by decide⟩
@[simp] theorem in63_l1000000000000000000 : In63 1000000000000000000 = True := eq_true ⟨by decide, by decide⟩
@[simp] theorem in63e_l1000000000000000000 : In63e 1000000000000000000 = True := eq_true ⟨by decide, by decide⟩
@[simp] theorem in64_l1000000000000000000 : In64 1000000000000000000 = True := eq_true ⟨by decide, by decide⟩
@[simp] theorem dvr_l1000000000000000000 : Dvr 1000000000000000000 = True := eq_true ⟨by decide, by decide⟩
/-! ### an owned list of data -/
def dats (ds : List PD) : List Cel := ds.map Cel.dat
@[simp] theorem dats_nil : dats [] = [] := (rfl)
theorem dats_cons {d : PD} {ds : List PD} : dats (d :: ds) = .dat d :: dats ds := (rfl)
@[simp] theorem dats_pd {ds : List PD} : (dats ds).map Cel.pd = ds := by unfold dats; rw [List.map_map, show Cel.pd ∘ Cel.dat = id from rfl, List.map_id]
@[simp] theorem dats_len {ds : List PD} : (dats ds).length = ds.length := by unfold dats; exact List.length_map ..
@[simp] theorem dats_app {ds es : List PD} : dats ds ++ dats es = dats (ds ++ es) := by unfold dats; exact List.map_append.symm
@[simp] theorem dats_app1 {ds : List PD} {d : PD} : dats ds ++ [Cel.dat d] = dats (ds ++ [d]) := by unfold dats; rw [List.map_append]; rfl
@[simp] theorem dats_set {ds : List PD} {d : PD} {i : Nat} : (dats ds).set i (Cel.dat d) = dats (ds.set i d) := by unfold dats; rw [List.map_set]
@[simp] theorem dats_erase {ds : List PD} {i : Nat} : (dats ds).eraseIdx i = dats (ds.eraseIdx i) := by
  unfold dats
  induction ds generalizing i with
  | nil => rfl
  | cons x xs ih => cases i with
    | zero => rfl
    | succ i => simp [ih]
@[simp] theorem dats_take {ds : List PD} {i : Nat} : (dats ds).take i = dats (ds.take i) := by unfold dats; rw [List.map_take]
@[simp] theorem dats_drop {ds : List PD} {i : Nat} : (dats ds).drop i = dats (ds.drop i) := by unfold dats; rw [List.map_drop]
theorem datAt_dats {ds : List PD} {i : Nat} : datAt (dats ds) i = ds[i]? := by
  unfold datAt dats
  rw [List.getElem?_map]
  cases ds[i]? <;> rfl
theorem datAt_at {ds : List PD} {i : Nat} (h : i < ds.length) : datAt (dats ds) i = some ds[i] := by rw [datAt_dats, List.getElem?_eq_getElem h]
theorem datAt_map {α : Type} {f : α → PD} {l : List α} {j : Nat} (h : j < l.length) : datAt (dats (l.map f)) j = some (f l[j]) := by rw [datAt_dats, List.getElem?_map, List.getElem?_eq_getElem h]; rfl
/-! ### the functions at work -/
abbrev natD (n : Nat) : PD := .int (n : Nat)
abbrev kk0 : KK := ⟨[]⟩
section
variable {ρ : Env} {v : VE}
@[simp] theorem q_mk_nil : mk [] = [] := (rfl)
@[simp] theorem q_mk_cons {s : Sl} {r : Env} : mk (s :: r) = s.mk :: mk r := (rfl)
@[simp] theorem q_vw_nil : vw [] = [] := (rfl)
@[simp] theorem q_vw_cons {s : Sl} {r : Env} : vw (s :: r) = s.vw :: vw r := (rfl)
@[simp] theorem q_mk_dat {d : PD} : (Sl.dat d).mk = some d := (rfl)
@[simp] theorem q_mk_un : Sl.un.mk = none := (rfl)
@[simp] theorem q_mk_own {cs : List Cel} : (Sl.own cs).mk = none := (rfl)
@[simp] theorem q_vw_dat {d : PD} : (Sl.dat d).vw = some d := (rfl)
@[simp] theorem q_vw_un : Sl.un.vw = none := (rfl)
@[simp] theorem q_vw_own {cs : List Cel} : (Sl.own cs).vw = some (.list (cs.map Cel.pd)) := (rfl)
@[simp] theorem q_pd_dat {d : PD} : (Cel.dat d).pd = d := (rfl)
@[simp] theorem q_pd_sub {ds : List PD} : (Cel.sub ds).pd = .list ds := (rfl)
/-! pure -/
@[simp] theorem q_var {i : Nat} : xVar i v = (v[i]?).bind id := (rfl)
@[simp] theorem q_c {d : PD} : xC d v = some d := (rfl)
@[simp] theorem q_op {f : PD → PD → Option PD} {a b : XE} : xOp f a b v = (a v).bind fun x => (b v).bind fun y => f x y := (rfl)
@[simp] theorem q_un {f : PD → Option PD} {a : XE} : xUn f a v = (a v).bind f := (rfl)
@[simp] theorem q_nil : xNil v = some [] := (rfl)
@[simp] theorem q_cons {a : XE} {as : XA} : xCons a as v = (a v).bind fun x => (as v).bind fun xs => some (x :: xs) := (rfl)
@[simp] theorem q_tup {as : XA} : xTup as v = (as v).bind fun ds => grd (ds.length ≤ 100000) (some (.tuple ds)) := by
  unfold xTup
  simp only [grd_ite]
@[simp] theorem q_lst {as : XA} : xLst as v = (as v).bind fun ds => grd (ds.length ≤ 100000) (some (.list ds)) := by
  unfold xLst
  simp only [grd_ite]
@[simp] theorem q_cb {f : List PD → Option PD} {as : XA} : xCB f as v = (as v).bind f := (rfl)
@[simp] theorem q_isB {b : Bool} : isB (.bool b) = some b := (rfl)
@[simp] theorem q_B {a : XE} : xB a v = (a v).bind isB := (rfl)
@[simp] theorem q_tand {a b : XT} : xTAnd a b v = (a v).bind fun c => andO c (b v) := (rfl)
@[simp] theorem q_tor {a b : XT} : xTOr a b v = (a v).bind fun c => orO c (b v) := (rfl)
@[simp] theorem q_tnot {a : XT} : xTNot a v = (a v).bind fun c => some (!c) := (rfl)
@[simp] theorem q_yes : xYes v = some true := (rfl)
@[simp] theorem q_and {a b : XE} : xAnd a b v = ((a v).bind isB).bind fun c => andV c (b v) := (rfl)
@[simp] theorem q_or {a b : XE} : xOr a b v = ((a v).bind isB).bind fun c => orV c (b v) := (rfl)
@[simp] theorem q_not {a : XE} : xNot a v = ((a v).bind isB).bind fun c => some (.bool (!c)) := (rfl)
@[simp] theorem q_if {c : XT} {a b : XE} : xIf c a b v = (c v).bind fun k => alt k (tag (a v)) (tag (b v)) := (rfl)
@[simp] theorem q_chain {f g : PD → PD → Option PD} {a b c : XE} : xChain f g a b c v = (a v).bind fun x => (b v).bind fun y => ((f x y).bind isB).bind fun k => andV k ((c v).bind fun z => g y z) := (rfl)
@[simp] theorem q_isi {t : Ty} {a : XE} : xIsi t a v = (a v).bind fun d => grd (full d = false) (some (.bool (isTy t d))) := by
  unfold xIsi
  congr 1
  funext d
  rw [← grd_ite]
  cases full d <;> rfl
@[simp] theorem q_nop : xNoPart v = some none := (rfl)
@[simp] theorem q_part {a : XE} : xPart a v = (a v).bind fun d => match d with | .int i => some (some i) | _ => none := (rfl)
@[simp] theorem q_sl {a : XE} {lo hi : XO} : xSl a lo hi v = (a v).bind fun d => (lo v).bind fun l => (hi v).bind fun h => slP d l h := (rfl)
@[simp] theorem q_idx {a b : XE} : xIdx a b v = (a v).bind fun x => (b v).bind fun y => idxP x y := (rfl)
@[simp] theorem q_on1 {f : PD → Option PD} {x : PD} : on1 f [x] = f x := (rfl)
@[simp] theorem q_on2 {f : PD → PD → Option PD} {x y : PD} : on2 f [x, y] = f x y := (rfl)
@[simp] theorem q_xiE {a : XE} : xiE a v = (a v).bind seqP := (rfl)
@[simp] theorem q_xiA {f : List PD → Option (List PD)} {as : XA} : xiA f as v = (as v).bind f := (rfl)
@[simp] theorem q_lc {src : XI} {g : XGV} {t : XT} {e : XE} {vs : List Nat} : xLc src g t e vs v = (src v).bind fun xs => grd (xs.length ≤ 40000) ((lcGo g t e (clear v vs) xs).bind fun ds => some (.list ds)) := by
  unfold xLc
  simp only [grd_ite]
@[simp] theorem q_clear_nil : clear v [] = v := (rfl)
@[simp] theorem q_clear_cons {i : Nat} {vs : List Nat} : clear v (i :: vs) = (clear v vs).set i none := (rfl)
@[simp] theorem q_gvName {i : Nat} {x : PD} : gvName i x v = some (v.set i (some x)) := (rfl)
@[simp] theorem q_gvNil : gvNil [] v = some v := (rfl)
@[simp] theorem q_gvCons {g : XGV} {gs : XGVs} {x : PD} {xs : List PD} : gvCons g gs (x :: xs) v = (g x v).bind fun v1 => gs xs v1 := (rfl)
@[simp] theorem q_gvTup {n : Nat} {gs : XGVs} {x : PD} : gvTup n gs x v = (seqP x).bind fun ds => grd (ds.length = n) (gs ds v) := by
  unfold gvTup
  simp only [grd_ite]
/-! operations -/
@[simp] theorem q_add_i {i j : Int} : addP (.int i) (.int j) = some (.int (i + j)) := (rfl)
@[simp] theorem q_add_l {xs ys : List PD} : addP (.list xs) (.list ys) = grd (xs.length + ys.length ≤ 100000) (some (.list (xs ++ ys))) := by
  unfold addP
  simp only [grd_ite]
@[simp] theorem q_add_t {xs ys : List PD} : addP (.tuple xs) (.tuple ys) = grd (xs.length + ys.length ≤ 100000) (some (.tuple (xs ++ ys))) := by
  unfold addP
  simp only [grd_ite]
@[simp] theorem q_sub {i j : Int} : subP (.int i) (.int j) = some (.int (i - j)) := (rfl)
@[simp] theorem q_div {i j : Int} : divP (.int i) (.int j) = grd (Dvr j) (some (.int (i / j))) := by
  unfold divP
  simp only [grd_ite]
  exact grd_iff ⟨fun h => ⟨h.1, h.2⟩, fun h => ⟨h.lo, h.hi⟩⟩
@[simp] theorem q_mod {i j : Int} : modP (.int i) (.int j) = grd (0 < j) (some (.int (i % j))) := by
  unfold modP
  simp only [grd_ite]
  rfl
@[simp] theorem q_pow {i j : Int} : powP (.int i) (.int j) = grd (0 ≤ j ∧ j ≤ 1000 ∧ In63 i) (some (.int (i ^ j.toNat))) := by
  unfold powP
  simp only [grd_ite]
  exact grd_iff ⟨fun h => ⟨h.1, h.2.1, h.2.2.1, h.2.2.2⟩, fun h => ⟨h.1, h.2.1, h.2.2.lo, h.2.2.hi⟩⟩
@[simp] theorem q_mul {i j : Int} : mulP (.int i) (.int j) = grd (In64 i ∨ In64 j) (some (.int (i * j))) := by
  unfold mulP
  simp only [grd_ite]
  exact grd_iff ⟨fun h => h.elim (fun h => .inl ⟨h.1, h.2⟩) fun h => .inr ⟨h.1, h.2⟩, fun h => h.elim (fun h => .inl ⟨h.lo, h.hi⟩) fun h => .inr ⟨h.lo, h.hi⟩⟩
@[simp] theorem q_lt {i j : Int} : ltP (.int i) (.int j) = some (.bool (decide (i < j))) := (rfl)
@[simp] theorem q_le {i j : Int} : leP (.int i) (.int j) = some (.bool (decide (i ≤ j))) := (rfl)
@[simp] theorem q_gt {i j : Int} : gtP (.int i) (.int j) = some (.bool (decide (j < i))) := (rfl)
@[simp] theorem q_ge {i j : Int} : geP (.int i) (.int j) = some (.bool (decide (j ≤ i))) := (rfl)
@[simp] theorem q_neg {i : Int} : negP (.int i) = some (.int (-i)) := (rfl)
theorem sh_int {i : Int} : SeqAt.shaped (.int i) = true := rfl
@[simp] theorem q_eq_i {i j : Int} : eqP (.int i) (.int j) = some (.bool (i == j)) := (rfl)
@[simp] theorem q_ne_i {i j : Int} : neP (.int i) (.int j) = some (.bool (!(i == j))) := (rfl)
@[simp] theorem q_is {x : PD} : isU x .none = some (.bool (isNone x)) := by cases x <;> rfl
@[simp] theorem q_isnt {x : PD} : isntU x .none = some (.bool (!isNone x)) := by cases x <;> rfl
@[simp] theorem q_isb {b c : Bool} : isU (.bool b) (.bool c) = some (.bool (b == c)) := (rfl)
@[simp] theorem q_isntb {b c : Bool} : isntU (.bool b) (.bool c) = some (.bool (b != c)) := (rfl)
@[simp] theorem q_isNone_n : isNone .none = true := (rfl)
@[simp] theorem q_isNone_i {i : Int} : isNone (.int i) = false := (rfl)
@[simp] theorem q_isNone_t {ds : List PD} : isNone (.tuple ds) = false := (rfl)
@[simp] theorem q_ix_t {ds : List PD} {i : Int} : ixP (.tuple ds) (.int i) = atI ds i := (rfl)
@[simp] theorem q_ix_l {ds : List PD} {i : Int} : ixP (.list ds) (.int i) = atI ds i := (rfl)
@[simp] theorem q_ix_s {ds : List PD} {i : Int} : ixP (scrD ds) (.int i) = atI ds i := (rfl)
@[simp] theorem q_sl_t {ds : List PD} {lo hi : Option Int} : slP (.tuple ds) lo hi = some (.tuple (cutD ds lo hi)) := (rfl)
@[simp] theorem q_sl_l {ds : List PD} {lo hi : Option Int} : slP (.list ds) lo hi = some (.list (cutD ds lo hi)) := (rfl)
@[simp] theorem q_sl_s {ds : List PD} {lo hi : Option Int} : slP (scrD ds) lo hi = some (.list (cutD ds lo hi)) := (rfl)
@[simp] theorem q_seq_t {ds : List PD} : seqP (.tuple ds) = some ds := (rfl)
@[simp] theorem q_seq_l {ds : List PD} : seqP (.list ds) = some ds := (rfl)
@[simp] theorem q_seq_s {ds : List PD} : seqP (scrD ds) = some ds := (rfl)
@[simp] theorem q_len_t {ds : List PD} : lenP (.tuple ds) = some (natD ds.length) := (rfl)
@[simp] theorem q_len_l {ds : List PD} : lenP (.list ds) = some (natD ds.length) := (rfl)
@[simp] theorem q_len_s {ds : List PD} : lenP (scrD ds) = some (natD ds.length) := (rfl)
@[simp] theorem q_tupP_l {ds : List PD} : tupP (.list ds) = some (.tuple ds) := (rfl)
@[simp] theorem q_tupP_t {ds : List PD} : tupP (.tuple ds) = some (.tuple ds) := (rfl)
@[simp] theorem q_listP_l {ds : List PD} : listP (.list ds) = some (.list ds) := (rfl)
@[simp] theorem q_listP_t {ds : List PD} : listP (.tuple ds) = some (.list ds) := (rfl)
@[simp] theorem q_absP {i : Int} : absP (.int i) = some (.int (if i < 0 then -i else i)) := (rfl)
@[simp] theorem q_enum_t {ds : List PD} : enumP [.tuple ds] = some (pairsD ds) := (rfl)
@[simp] theorem q_enum_l {ds : List PD} : enumP [.list ds] = some (pairsD ds) := (rfl)
@[simp] theorem q_zip_t {ds es : List PD} : zipP [.tuple ds, .tuple es] = some (zipD ds es) := (rfl)
@[simp] theorem q_zip_l {ds es : List PD} : zipP [.list ds, .list es] = some (zipD ds es) := (rfl)
theorem rng_eq {i : Int} {n : Nat} : (List.range n).map (fun k => PyData.int (i + (k : Nat))) = (List.range n).map fun (k : Nat) => PyData.int (i + (k : Int)) := (rfl)
@[simp] theorem q_rng {j : Int} : rngP [.int j] = grd (In62 j) (some ((List.range j.toNat).map natD)) := by
  have e : (List.range j.toNat).map (fun k => PyData.int (0 + (k : Nat))) = (List.range j.toNat).map natD := by
    apply List.map_congr_left
    intro k _
    rw [Int.zero_add]
  unfold rngP
  dsimp only
  rw [e, grd_ite]
  exact grd_iff ⟨fun h => ⟨h.1, h.2⟩, fun h => ⟨h.lo, h.hi⟩⟩
@[simp] theorem q_full_n : full .none = false := (rfl)
@[simp] theorem q_full_b {b : Bool} : full (.bool b) = false := (rfl)
@[simp] theorem q_full_i {i : Int} : full (.int i) = false := (rfl)
@[simp] theorem q_full_s {x : Str} : full (.str x) = false := (rfl)
@[simp] theorem q_full_l {ds : List PD} : full (.list ds) = false := (rfl)
@[simp] theorem q_full_t {ds : List PD} : full (.tuple ds) = false := (rfl)
@[simp] theorem q_full_d : full (.dict []) = false := (rfl)
@[simp] theorem q_flat_n : flat .none = true := by simp [flat]
@[simp] theorem q_flat_b {b : Bool} : flat (.bool b) = true := by simp [flat]
@[simp] theorem q_flat_i {i : Int} : flat (.int i) = true := by simp [flat]
@[simp] theorem q_flat_s {x : Str} : flat (.str x) = true := by simp [flat]
@[simp] theorem q_flat_t {ds : List PD} : flat (.tuple ds) = flats ds := by simp [flat]
@[simp] theorem q_flats_nil : flats [] = true := by simp [flats]
@[simp] theorem q_flats_cons {d : PD} {ds : List PD} : flats (d :: ds) = (flat d && flats ds) := by simp [flats]
/-! over the state -/
@[simp] theorem q_wM {x : XE} : wM x ρ = (x (mk ρ)).bind fun d => some (d, ρ) := (rfl)
@[simp] theorem q_wV {x : XE} : wV x ρ = (x (vw ρ)).bind fun d => grd (flat d = true) (some (d, ρ)) := by
  unfold wV
  simp only [grd_ite]
@[simp] theorem q_wMT {x : XT} : wMT x ρ = (x (mk ρ)).bind fun d => some (d, ρ) := (rfl)
@[simp] theorem q_wVT {x : XT} : wVT x ρ = (x (vw ρ)).bind fun d => some (d, ρ) := (rfl)
@[simp] theorem q_wNil : wNil ρ = some ([], ρ) := (rfl)
@[simp] theorem q_wCons {a : XW} {as : XWA} : wCons a as ρ = (a ρ).bind fun x => (as x.2).bind fun xs => some (x.1 :: xs.1, xs.2) := (rfl)
@[simp] theorem q_wOp {f : PD → PD → Option PD} {a b : XW} : wOp f a b ρ = (a ρ).bind fun x => (b x.2).bind fun y => (f x.1 y.1).bind fun z => some (z, y.2) := (rfl)
@[simp] theorem q_wTup {as : XWA} : wTup as ρ = (as ρ).bind fun x => grd (x.1.length ≤ 100000) (some (.tuple x.1, x.2)) := by
  unfold wTup
  simp only [grd_ite]
@[simp] theorem q_wLst {as : XWA} : wLst as ρ = (as ρ).bind fun x => grd (x.1.length ≤ 100000) (some (.list x.1, x.2)) := by
  unfold wLst
  simp only [grd_ite]
@[simp] theorem q_wCB {f : List PD → Option PD} {as : XWA} : wCB f as ρ = (as ρ).bind fun x => (f x.1).bind fun z => some (z, x.2) := (rfl)
@[simp] theorem q_wB {a : XW} : wB a ρ = (a ρ).bind fun x => (isB x.1).bind fun b => some (b, x.2) := (rfl)
@[simp] theorem q_wIf {c : XWT} {a b : XW} : wIf c a b ρ = (c ρ).bind fun k => alt k.1 (tag (a k.2)) (tag (b k.2)) := (rfl)
@[simp] theorem q_wCallK {i : Nat} {g : List Cel → List PD → Option (PD × List Cel)} {as : XWA} : wCallK i g as ρ = (ownAt ρ i).bind fun _ => (as ρ).bind fun x => (ownAt x.2 i).bind fun cs => (g cs x.1).bind fun y => some (y.1, x.2.set i (.own y.2)) := (rfl)
@[simp] theorem q_ownAt0 {cs : List Cel} {r : Env} : ownAt (.own cs :: r) 0 = some cs := (rfl)
@[simp] theorem q_ownAtS {s : Sl} {r : Env} {i : Nat} : ownAt (s :: r) (i + 1) = ownAt r i := (rfl)
@[simp] theorem q_wFz {o : XWO} : wFz o ρ = (o ρ).bind fun x => some (.list (x.1.map Cel.pd), x.2) := (rfl)
@[simp] theorem q_wOM {x : XE} : wOM x ρ = ((x (mk ρ)).bind asList).bind fun ds => some (dats ds, ρ) := (rfl)
@[simp] theorem q_wOV {x : XE} : wOV x ρ = ((x (vw ρ)).bind asList).bind fun ds => grd (flats ds = true) (some (dats ds, ρ)) := by
  unfold wOV
  simp only [grd_ite]
  rfl
@[simp] theorem q_asList {ds : List PD} : asList (.list ds) = some ds := (rfl)
@[simp] theorem q_wOL {as : XWC} : wOL as ρ = (as ρ).bind fun x => grd (x.1.length ≤ 100000) (some x) := by
  unfold wOL
  simp only [grd_ite]
@[simp] theorem q_wcNil : wcNil ρ = some ([], ρ) := (rfl)
@[simp] theorem q_wcDat {a : XW} {as : XWC} : wcDat a as ρ = (a ρ).bind fun x => (as x.2).bind fun xs => some (.dat x.1 :: xs.1, xs.2) := (rfl)
@[simp] theorem q_wcSub {a : XWO} {as : XWC} : wcSub a as ρ = (a ρ).bind fun x => (allDat x.1).bind fun ds => (as x.2).bind fun xs => some (.sub ds :: xs.1, xs.2) := (rfl)
@[simp] theorem q_allDat {ds : List PD} : allDat (dats ds) = some ds := @allDat_map kk0 ds
@[simp] theorem q_allDat_nil : allDat [] = some [] := (rfl)
@[simp] theorem q_wCallD {f : List PD → Option (List Cel)} {as : XWA} : wCallD f as ρ = (as ρ).bind fun x => (f x.1).bind fun cs => some (cs, x.2) := (rfl)
@[simp] theorem q_wPop {i : Nat} {a : XW} : wPop i a ρ = (ownAt ρ i).bind fun _ => (a ρ).bind fun x => (isI x.1).bind fun k => (ownAt x.2 i).bind fun cs => grd (In63e k) ((ixN cs.length k).bind fun n => (datAt cs n).bind fun d => some (d, x.2.set i (.own (cs.eraseIdx n)))) := by
  unfold wPop
  simp only [grd_ite]
  congr 1; funext _; congr 1; funext x; congr 1; funext k; congr 1; funext cs
  exact grd_iff ⟨fun h => ⟨h.1, h.2⟩, fun h => ⟨h.lo, h.hi⟩⟩
@[simp] theorem q_isI {i : Int} : isI (.int i) = some i := (rfl)
@[simp] theorem q_wiE {a : XW} : wiE a ρ = (a ρ).bind fun x => (seqP x.1).bind fun xs => some (xs, x.2) := (rfl)
@[simp] theorem q_wiA {f : List PD → Option (List PD)} {as : XWA} : wiA f as ρ = (as ρ).bind fun x => (f x.1).bind fun xs => some (xs, x.2) := (rfl)
@[simp] theorem q_gName {i : Nat} {x : PD} : gName' i x ρ = some (ρ.set i (.dat x)) := (rfl)
@[simp] theorem q_gNil : gNil' [] ρ = some ρ := (rfl)
@[simp] theorem q_gCons {g : XG} {gs : XGs} {x : PD} {xs : List PD} : gCons' g gs (x :: xs) ρ = (g x ρ).bind fun v1 => gs xs v1 := (rfl)
@[simp] theorem q_gTup {n : Nat} {gs : XGs} {x : PD} : gTup' n gs x ρ = (seqP x).bind fun ds => grd (ds.length = n) (gs ds ρ) := by
  unfold gTup'
  simp only [grd_ite]
/-! statements -/
@[simp] theorem q_sNext : sNext ρ = some (.nxt ρ) := (rfl)
@[simp] theorem q_sRet {w : XW} : sRet w ρ = (w ρ).bind fun x => some (.ret x.1 x.2) := (rfl)
@[simp] theorem q_sRetO {w : XWO} : sRetO w ρ = (w ρ).bind fun x => some (.retO x.1 x.2) := (rfl)
@[simp] theorem q_sIf {c : XWT} {x y : XS} : sIf c x y ρ = (c ρ).bind fun k => alt k.1 (tag (x k.2)) (tag (y k.2)) := (rfl)
@[simp] theorem q_sAsg {g : XG} {w : XW} : sAsg g w ρ = (w ρ).bind fun x => (g x.1 x.2).bind fun ρ1 => some (.nxt ρ1) := (rfl)
@[simp] theorem q_sOwn {i : Nat} {w : XWO} : sOwn i w ρ = (w ρ).bind fun x => grd (i < x.2.length) (some (.nxt (x.2.set i (.own x.1)))) := by
  unfold sOwn
  simp only [grd_ite]
@[simp] theorem q_sDrop {w : XW} : sDrop w ρ = (w ρ).bind fun x => some (.nxt x.2) := (rfl)
@[simp] theorem q_toSl_d {d : PD} : toSl (.dat d) = .dat d := (rfl)
@[simp] theorem q_toSl_s {ds : List PD} : toSl (.sub ds) = .own (dats ds) := (rfl)
@[simp] theorem q_two {c e : Cel} : two [c, e] = some (c, e) := (rfl)
@[simp] theorem q_sPar {i j : Nat} {as : XWC} : sPar i j as ρ = (as ρ).bind fun x => (two x.1).bind fun c => grd (i < x.2.length ∧ j < x.2.length) (some (.nxt ((x.2.set i (toSl c.1)).set j (toSl c.2)))) := by
  unfold sPar
  simp only [grd_ite]
@[simp] theorem q_sApp {i : Nat} {a : XW} : sApp i a ρ = (ownAt ρ i).bind fun _ => (a ρ).bind fun x => (ownAt x.2 i).bind fun cs => grd (cs.length < 100000) (some (.nxt (x.2.set i (.own (cs ++ [.dat x.1]))))) := by
  unfold sApp
  simp only [grd_ite]
@[simp] theorem q_sSet {i : Nat} {k : XE} {a : XW} : sSet i k a ρ = (a ρ).bind fun x => (ownAt x.2 i).bind fun cs => ((k (vw x.2)).bind isI).bind fun k => (ixN cs.length k).bind fun n => (datAt cs n).bind fun _ => some (.nxt (x.2.set i (.own (cs.set n (.dat x.1))))) := (rfl)
@[simp] theorem q_sSetS {i : Nat} {k j : XE} {a : XW} : sSetS i k j a ρ = (a ρ).bind fun x => (ownAt x.2 i).bind fun cs => ((k (vw x.2)).bind isI).bind fun k => (ixN cs.length k).bind fun n => (subAt cs n).bind fun ds => ((j (vw x.2)).bind isI).bind fun j => (ixN ds.length j).bind fun m => some (.nxt (x.2.set i (.own (cs.set n (.sub (ds.set m x.1)))))) := (rfl)
@[simp] theorem q_sFz {i : Nat} {y : XS} : sFz i y ρ = y (fzE ρ i) := (rfl)
@[simp] theorem q_fz0 {cs : List Cel} {r : Env} : fzE (.own cs :: r) 0 = .dat (.list (cs.map Cel.pd)) :: r := (rfl)
@[simp] theorem q_fzS {s : Sl} {r : Env} {i : Nat} : fzE (s :: r) (i + 1) = s :: fzE r i := by
  unfold fzE
  rw [List.getElem?_cons_succ]
  cases h : r[i]? with
  | none => rfl
  | some q => cases q <;> rfl
@[simp] theorem q_sFor {src : XWI} {g : XG} {b : XS} : sFor src g b ρ = (src ρ).bind fun x => forGo g b x.1 x.2 := (rfl)
end
end Uv

namespace Uv
open PySem PySem.Spec PyProof.Rows L2
section
variable {ρ : Env} {v : VE}
/-! ### further functions at work -/
@[simp] theorem q_wUn {f : PD → Option PD} {a : XW} : wUn f a ρ = (a ρ).bind fun x => (f x.1).bind fun z => some (z, x.2) := (rfl)
@[simp] theorem q_wTAnd {a b : XWT} : wTAnd a b ρ = (a ρ).bind fun c => alt c.1 (tag (b c.2)) (tag (some (false, c.2))) := (rfl)
@[simp] theorem q_wTOr {a b : XWT} : wTOr a b ρ = (a ρ).bind fun c => alt c.1 (tag (some (true, c.2))) (tag (b c.2)) := (rfl)
@[simp] theorem q_wTNot {a : XWT} : wTNot a ρ = (a ρ).bind fun c => some (!c.1, c.2) := (rfl)
@[simp] theorem q_wAnd {a b : XW} : wAnd a b ρ = (wB a ρ).bind fun c => alt c.1 (tag (b c.2)) (tag (some (.bool false, c.2))) := (rfl)
@[simp] theorem q_wOr {a b : XW} : wOr a b ρ = (wB a ρ).bind fun c => alt c.1 (tag (some (.bool true, c.2))) (tag (b c.2)) := (rfl)
@[simp] theorem q_wNot {a : XW} : wNot a ρ = (wB a ρ).bind fun c => some (.bool (!c.1), c.2) := (rfl)
@[simp] theorem q_sExt {i : Nat} {a : XW} : sExt i a ρ = (ownAt ρ i).bind fun _ => (a ρ).bind fun x => (asList x.1).bind fun ds => (ownAt x.2 i).bind fun cs => grd (cs.length + ds.length ≤ 100000) (some (.nxt (x.2.set i (.own (cs ++ dats ds))))) := by
  unfold sExt
  simp only [grd_ite]
  rfl
@[simp] theorem q_sIns {i : Nat} {as : XWA} : sIns i as ρ = (ownAt ρ i).bind fun _ => (as ρ).bind fun x => (insA x.1).bind fun kd => (ownAt x.2 i).bind fun cs => grd (cs.length < 100000 ∧ 0 ≤ kd.1 ∧ In63e kd.1) (some (.nxt (x.2.set i (.own (cs.take kd.1.toNat ++ [.dat kd.2] ++ cs.drop kd.1.toNat))))) := by
  unfold sIns
  simp only [grd_ite]
  congr 1; funext _; congr 1; funext x; congr 1; funext k; congr 1; funext cs
  exact grd_iff ⟨fun h => ⟨h.1, h.2.1, by have := h.2.1; omega, h.2.2⟩, fun h => ⟨h.1, h.2.1, h.2.2.hi⟩⟩
@[simp] theorem q_insA {i : Int} {d : PD} : insA [.int i, d] = some (i, d) := (rfl)
@[simp] theorem q_sPopS {i : Nat} {k j : XE} : sPopS i k j ρ = (ownAt ρ i).bind fun cs => ((k (vw ρ)).bind isI).bind fun k => (ixN cs.length k).bind fun n => (subAt cs n).bind fun ds => ((j (vw ρ)).bind isI).bind fun j => grd (In63e j) ((ixN ds.length j).bind fun m => some (.nxt (ρ.set i (.own (cs.set n (.sub (ds.eraseIdx m))))))) := by
  unfold sPopS
  simp only [grd_ite]
  congr 1; funext cs; congr 1; funext k; congr 1; funext n; congr 1; funext ds; congr 1; funext j
  exact grd_iff ⟨fun h => ⟨h.1, h.2⟩, fun h => ⟨h.lo, h.hi⟩⟩
def unAt (ρ : Env) (i : Nat) (x : Option Out) : Option Out := match ρ[i]? with
  | some .un => x
  | _ => none
@[simp] theorem unAt_0 {r : Env} {x : Option Out} : unAt (.un :: r) 0 x = x := (rfl)
@[simp] theorem unAt_S {s : Sl} {r : Env} {i : Nat} {x : Option Out} : unAt (s :: r) (i + 1) x = unAt r i x := (rfl)
@[simp] theorem q_sAppS {i : Nat} {k : XE} {a : XW} : sAppS i k a ρ = (ownAt ρ i).bind fun cs => ((k (vw ρ)).bind isI).bind fun kk => (ixN cs.length kk).bind fun n => (subAt cs n).bind fun ds => (a (ρ.set i .un)).bind fun x => unAt x.2 i (grd (ds.length < 100000) (some (.nxt (x.2.set i (.own (cs.set n (.sub (ds ++ [x.1])))))))) := by
  unfold sAppS
  simp only [grd_ite]
  rfl
@[simp] theorem q_sRetN : sRetN ρ = some (.ret .none ρ) := (rfl)
@[simp] theorem q_sCont : sCont ρ = some (.cnt ρ) := (rfl)
@[simp] theorem q_sBreak : sBreak ρ = some (.brk ρ) := (rfl)
@[simp] theorem q_sWhile {n : Nat} {c : XWT} {b : XS} : sWhile n c b ρ = whGo c b n ρ := (rfl)
@[simp] theorem q_wLc {src : XWI} {g : XG} {t : XWT} {e : XW} {vs : List Nat} : wLc src g t e vs ρ = (src ρ).bind fun x => grd (x.1.length ≤ 40000) ((wlGo g t e vs x.1 x.2).bind fun r => some (dats r.1, backE x.2 r.2 vs)) := by
  unfold wLc
  simp only [grd_ite]
  rfl
@[simp] theorem q_backE_nil {ρ1 : Env} : backE ρ1 ρ [] = ρ := (rfl)
@[simp] theorem q_backE_cons {ρ1 : Env} {i : Nat} {vs : List Nat} : backE ρ1 ρ (i :: vs) = (backE ρ1 ρ vs).set i (keepD ρ1[i]?) := (rfl)
@[simp] theorem q_keepD_d {d : PD} : keepD (some (.dat d)) = .dat d := (rfl)
@[simp] theorem q_keepD_u : keepD (some .un) = .un := (rfl)
@[simp] theorem q_keepD_o {cs : List Cel} : keepD (some (.own cs)) = .un := (rfl)
@[simp] theorem q_clearE_nil : clearE ρ [] = ρ := (rfl)
@[simp] theorem q_clearE_cons {i : Nat} {vs : List Nat} : clearE ρ (i :: vs) = (clearE ρ vs).set i .un := (rfl)
/-! ### where a def ends -/
def endP {Q : PD → Prop} (_ : Tag Q) : Out → Prop
  | .ret d _ => Q d
  | .nxt _ => Q .none
  | _ => False
def endW {Q : PD × List Cel → Prop} (_ : Tag Q) : Out → Prop
  | .ret d ρ => wp (ownAt ρ 0) (tag fun cs => Q (d, cs))
  | .nxt ρ => wp (ownAt ρ 0) (tag fun cs => Q (.none, cs))
  | _ => False
def endD' {Q : List Cel → Prop} (_ : Tag Q) : Out → Prop
  | .retO cs _ => Q cs
  | _ => False
section
variable {QP : PD → Prop} {QW : PD × List Cel → Prop} {QD : List Cel → Prop} {d : PD} {cs : List Cel}
@[simp] theorem endP_ret : endP (tag QP) (.ret d ρ) = QP d := (rfl)
@[simp] theorem endP_nxt : endP (tag QP) (.nxt ρ) = QP .none := (rfl)
@[simp] theorem endW_ret : endW (tag QW) (.ret d ρ) = wp (ownAt ρ 0) (tag fun cs => QW (d, cs)) := (rfl)
@[simp] theorem endW_nxt : endW (tag QW) (.nxt ρ) = wp (ownAt ρ 0) (tag fun cs => QW (.none, cs)) := (rfl)
@[simp] theorem endD_ret : endD' (tag QD) (.retO cs ρ) = QD cs := (rfl)
end
theorem wp_runP {n k : Nat} {X : XS} {ds : List PD} {Q : PD → Prop} (hn : ds.length = n) (h : wp (X (ds.map Sl.dat ++ List.replicate k Sl.un)) (tag (endP (tag Q)))) : wp (runP n k X ds) (tag Q) := by
  obtain ⟨o, e, h⟩ := h
  unfold runP
  rw [if_pos hn, e]
  cases o with
  | ret d ρ => exact ⟨_, rfl, h⟩
  | nxt ρ => exact ⟨_, rfl, h⟩
  | _ => exact h.elim
theorem wp_runW {n k : Nat} {X : XS} {cs : List Cel} {ds : List PD} {Q : PD × List Cel → Prop} (hn : ds.length = n) (h : wp (X (.own cs :: (ds.map Sl.dat ++ List.replicate k Sl.un))) (tag (endW (tag Q)))) : wp (runW n k X cs ds) (tag Q) := by
  obtain ⟨o, e, h⟩ := h
  unfold runW
  rw [if_pos hn, e]
  cases o with
  | ret d ρ =>
    obtain ⟨cs', e2, h2⟩ := h
    exact ⟨(d, cs'), by rw [Option.bind_some]; show (ownAt ρ 0).bind _ = _; rw [e2]; rfl, h2⟩
  | nxt ρ =>
    obtain ⟨cs', e2, h2⟩ := h
    exact ⟨(.none, cs'), by rw [Option.bind_some]; show (ownAt ρ 0).bind _ = _; rw [e2]; rfl, h2⟩
  | _ => exact h.elim
theorem wp_runD {n k : Nat} {X : XS} {ds : List PD} {Q : List Cel → Prop} (hn : ds.length = n) (h : wp (X (ds.map Sl.dat ++ List.replicate k Sl.un)) (tag (endD' (tag Q)))) : wp (runD n k X ds) (tag Q) := by
  obtain ⟨o, e, h⟩ := h
  unfold runD
  rw [if_pos hn, e]
  cases o with
  | retO d ρ => exact ⟨_, rfl, h⟩
  | _ => exact h.elim
/-- a value that is known -/
theorem eq_of_wp {α : Type} {o : Option α} {a : α} (h : wp o (tag fun x => x = a)) : o = some a := wp_eq.mp h
/-! ### loops -/
/-- what holds at a place of a loop: kept as it was written, only the state is run -/
structure Inv {J : Env → Prop} (t : Tag J) (ρ : Env) : Prop where
  of ::
  to : J ρ
def forK {J : Env → Prop} {Q : Out → Prop} (_ : Tag J) (_ : Tag Q) : Out → Prop
  | .nxt ρ => Inv (tag J) ρ
  | .cnt ρ => Inv (tag J) ρ
  | .brk ρ => Q (.nxt ρ)
  | .ret d ρ => Q (.ret d ρ)
  | .retO d ρ => Q (.retO d ρ)
section
variable {J : Env → Prop} {Q : Out → Prop} {d : PD} {cs : List Cel}
@[simp] theorem forK_nxt : forK (tag J) (tag Q) (.nxt ρ) = Inv (tag J) ρ := (rfl)
@[simp] theorem forK_cnt : forK (tag J) (tag Q) (.cnt ρ) = Inv (tag J) ρ := (rfl)
@[simp] theorem forK_brk : forK (tag J) (tag Q) (.brk ρ) = Q (.nxt ρ) := (rfl)
@[simp] theorem forK_ret : forK (tag J) (tag Q) (.ret d ρ) = Q (.ret d ρ) := (rfl)
@[simp] theorem forK_retO : forK (tag J) (tag Q) (.retO cs ρ) = Q (.retO cs ρ) := (rfl)
end
theorem wp_for {g : XG} {b : XS} {xs : List PD} {Q : Out → Prop} (I : Nat → Env → Prop) (h0 : I 0 ρ) (hs : ∀ (i : Nat) (h : i < xs.length) (ρ : Env), I i ρ → wp (g xs[i] ρ) (tag fun ρ1 => wp (b ρ1) (tag (forK (tag (I (i + 1))) (tag Q))))) (hq : ∀ ρ, I xs.length ρ → Q (.nxt ρ)) : wp (forGo g b xs ρ) (tag Q) := by
  induction xs generalizing ρ I with
  | nil => exact ⟨_, rfl, hq ρ h0⟩
  | cons x xs ih =>
    obtain ⟨ρ1, e1, o, e2, h2⟩ := hs 0 (Nat.succ_pos _) ρ h0
    have go : ∀ ρ2, I 1 ρ2 → wp (forGo g b xs ρ2) (tag Q) := fun ρ2 h3 => ih (fun i => I (i + 1)) h3 (fun i hi ρ hI => hs (i + 1) (Nat.succ_lt_succ hi) ρ hI) hq
    have e1 : g x ρ = some ρ1 := e1
    unfold forGo
    rw [e1, Option.bind_some, e2, Option.bind_some]
    cases o with
    | nxt ρ2 => exact go ρ2 h2.to
    | cnt ρ2 => exact go ρ2 h2.to
    | brk ρ2 => exact ⟨_, rfl, h2⟩
    | ret d ρ2 => exact ⟨_, rfl, h2⟩
    | retO d ρ2 => exact ⟨_, rfl, h2⟩
@[simp] theorem Inv_wp {g : Env → Option Out} {Q : Out → Prop} : Inv (tag fun ρ2 => wp (g ρ2) (tag Q)) ρ = wp (g ρ) (tag Q) := propext ⟨fun h => h.to, fun h => ⟨h⟩⟩
theorem wp_for_nil {g : XG} {b : XS} {Q : Out → Prop} : wp (forGo g b [] ρ) (tag Q) = Q (.nxt ρ) := by unfold forGo; exact wp_some
theorem wp_for_cons {g : XG} {b : XS} {x : PD} {xs : List PD} {Q : Out → Prop} : wp (forGo g b (x :: xs) ρ) (tag Q) = wp (g x ρ) (tag fun ρ1 => wp (b ρ1) (tag (forK (tag fun ρ2 => wp (forGo g b xs ρ2) (tag Q)) (tag Q)))) := by
  have e : forGo g b (x :: xs) ρ = (g x ρ).bind fun ρ1 => (b ρ1).bind fun o => match o with
    | .nxt ρ2 => forGo g b xs ρ2
    | .cnt ρ2 => forGo g b xs ρ2
    | .brk ρ2 => some (.nxt ρ2)
    | .ret d ρ2 => some (.ret d ρ2)
    | .retO d ρ2 => some (.retO d ρ2) := rfl
  rw [e, wp_bind]
  apply propext
  have k : ∀ o : Out, wp (match o with
    | .nxt ρ2 => forGo g b xs ρ2
    | .cnt ρ2 => forGo g b xs ρ2
    | .brk ρ2 => some (.nxt ρ2)
    | .ret d ρ2 => some (.ret d ρ2)
    | .retO d ρ2 => some (.retO d ρ2)) (tag Q) ↔ forK (tag fun ρ2 => wp (forGo g b xs ρ2) (tag Q)) (tag Q) o := fun o => by cases o <;> simp
  constructor
  · exact fun h => wp_mono h fun ρ1 h1 => wp_mono (by rw [wp_bind] at h1; exact h1) fun o h2 => (k o).mp h2
  · exact fun h => wp_mono h fun ρ1 h1 => by rw [wp_bind]; exact wp_mono h1 fun o h2 => (k o).mpr h2
theorem wp_forM {α : Type} {g : XG} {b : XS} {l : List α} {enc : α → PD} {Q : Out → Prop} (I : Nat → Env → Prop) (h0 : I 0 ρ) (hs : ∀ (i : Nat) (h : i < l.length) (ρ : Env), I i ρ → wp (g (enc l[i]) ρ) (tag fun ρ1 => wp (b ρ1) (tag (forK (tag (I (i + 1))) (tag Q))))) (hq : ∀ ρ, I l.length ρ → Q (.nxt ρ)) : wp (forGo g b (l.map enc) ρ) (tag Q) :=
  wp_for I h0 (fun i h ρ hI => by
    rw [List.getElem_map]
    exact hs i (by simpa using h) ρ hI) (fun ρ h => hq ρ (by simpa using h))
theorem wp_forR {g : XG} {b : XS} {n : Nat} {Q : Out → Prop} (I : Nat → Env → Prop) (h0 : I 0 ρ) (hs : ∀ (i : Nat) (h : i < n) (ρ : Env), I i ρ → wp (g (natD i) ρ) (tag fun ρ1 => wp (b ρ1) (tag (forK (tag (I (i + 1))) (tag Q))))) (hq : ∀ ρ, I n ρ → Q (.nxt ρ)) : wp (forGo g b ((List.range n).map natD) ρ) (tag Q) :=
  wp_forM I h0 (fun i h ρ hI => by
    rw [List.getElem_range]
    exact hs i (by simpa using h) ρ hI) (fun ρ h => hq ρ (by simpa using h))
theorem pairsD_map {α : Type} (enc : α → PD) (xs : List α) : pairsD (xs.map enc) = (xs.zipIdx).map fun p => .tuple [natD p.2, enc p.1] := by
  unfold pairsD
  rw [List.zipIdx_map, List.map_map]
  rfl
@[simp] theorem pairsD_len {xs : List PD} : (pairsD xs).length = xs.length := by unfold pairsD; simp
theorem wp_forE {α : Type} {g : XG} {b : XS} {l : List α} {enc : α → PD} {Q : Out → Prop} (I : Nat → Env → Prop) (h0 : I 0 ρ) (hs : ∀ (i : Nat) (h : i < l.length) (ρ : Env), I i ρ → wp (g (.tuple [natD i, enc l[i]]) ρ) (tag fun ρ1 => wp (b ρ1) (tag (forK (tag (I (i + 1))) (tag Q))))) (hq : ∀ ρ, I l.length ρ → Q (.nxt ρ)) : wp (forGo g b (pairsD (l.map enc)) ρ) (tag Q) := by
  rw [pairsD_map]
  refine wp_forM I h0 (fun i h ρ hI => ?_) (fun ρ h => hq ρ (by simpa using h))
  have h' : i < l.length := by simpa using h
  have := hs i h' ρ hI
  simp only [List.getElem_zipIdx, Nat.zero_add]
  exact this
theorem wp_while {c : XWT} {b : XS} {n : Nat} {Q : Out → Prop} (I : Nat → Env → Prop) {k : Nat} (hk : k < n) (h0 : I k ρ) (hs : ∀ (k : Nat) (ρ : Env), I k ρ → wp (c ρ) (tag fun x => (x.1 = false → Q (.nxt x.2)) ∧ (x.1 = true → wp (b x.2) (tag (forK (tag fun ρ => ∃ j, j < k ∧ I j ρ) (tag Q)))))) : wp (whGo c b n ρ) (tag Q) := by
  induction n generalizing k ρ with
  | zero => omega
  | succ n ih =>
    obtain ⟨⟨t, ρ1⟩, e1, h1, h2⟩ := hs k ρ h0
    unfold whGo
    rw [e1, Option.bind_some]
    cases t with
    | false => exact ⟨_, rfl, h1 rfl⟩
    | true =>
      obtain ⟨o, e2, h3⟩ := h2 rfl
      have e2 : b ρ1 = some o := e2
      simp only [if_true, e2, Option.bind_some]
      cases o with
      | nxt ρ2 => obtain ⟨j, hj, hI⟩ := h3.to; exact ih (by omega) hI
      | cnt ρ2 => obtain ⟨j, hj, hI⟩ := h3.to; exact ih (by omega) hI
      | brk ρ2 => exact ⟨_, rfl, h3⟩
      | ret d ρ2 => exact ⟨_, rfl, h3⟩
      | retO d ρ2 => exact ⟨_, rfl, h3⟩
/-! ### comprehensions -/
theorem wp_lc {α : Type} {g : XGV} {t : XT} {e : XE} {enc : α → PD} (p : α → Bool) (f : α → PD) {l : List α} {Q : List PD → Prop} (h : ∀ x ∈ l, wp (g (enc x) v) (tag fun v1 => wp (t v1) (tag fun b => b = p x ∧ (p x = true → wp (e v1) (tag fun d => d = f x))))) (hq : Q ((l.filter p).map f)) : wp (lcGo g t e v (l.map enc)) (tag Q) := by
  have main : ∀ l : List α, (∀ x ∈ l, wp (g (enc x) v) (tag fun v1 => wp (t v1) (tag fun b => b = p x ∧ (p x = true → wp (e v1) (tag fun d => d = f x))))) → lcGo g t e v (l.map enc) = some ((l.filter p).map f) := by
    intro l
    induction l with
    | nil => intro _; rfl
    | cons x xs ih =>
      intro h
      obtain ⟨v1, h1, b, h2, hb, h3⟩ := h x (List.mem_cons_self ..)
      subst hb
      have ih := ih fun y hy => h y (List.mem_cons_of_mem _ hy)
      rw [List.map_cons]
      unfold lcGo
      rw [h1, Option.bind_some, h2, Option.bind_some, ih]
      cases hp : p x with
      | true =>
        obtain ⟨d, h4, h5⟩ := h3 hp
        subst h5
        rw [if_pos rfl, h4, List.filter_cons, if_pos hp]
        rfl
      | false => rw [if_neg Bool.false_ne_true, List.filter_cons, if_neg (by rw [hp]; exact Bool.false_ne_true)]
  exact ⟨_, main l h, hq⟩
theorem wp_lcT {α : Type} {g : XGV} {e : XE} {enc : α → PD} (f : α → PD) {l : List α} {Q : List PD → Prop} (h : ∀ x ∈ l, wp (g (enc x) v) (tag fun v1 => wp (e v1) (tag fun d => d = f x))) (hq : Q (l.map f)) : wp (lcGo g xYes e v (l.map enc)) (tag Q) :=
  wp_lc (fun _ => true) f (fun x hx => wp_mono (h x hx) fun v1 h1 => ⟨true, rfl, rfl, fun _ => h1⟩) (by rw [List.filter_eq_self.mpr fun _ _ => rfl]; exact hq)
/-- over enumerate -/
theorem wp_lcE {α : Type} {g : XGV} {t : XT} {e : XE} {enc : α → PD} (p : α × Nat → Bool) (f : α × Nat → PD) {l : List α} {Q : List PD → Prop} (h : ∀ (i : Nat) (hi : i < l.length), wp (g (.tuple [natD i, enc l[i]]) v) (tag fun v1 => wp (t v1) (tag fun b => b = p (l[i], i) ∧ (p (l[i], i) = true → wp (e v1) (tag fun d => d = f (l[i], i)))))) (hq : Q ((l.zipIdx.filter p).map f)) : wp (lcGo g t e v (pairsD (l.map enc))) (tag Q) := by
  rw [pairsD_map]
  refine wp_lc p f (fun x hx => ?_) hq
  obtain ⟨y, i⟩ := x
  obtain ⟨h1, h2⟩ := List.mem_zipIdx' hx
  have h2 : y = l[i] := h2
  rw [h2]
  exact h i h1
theorem wp_lcET {α : Type} {g : XGV} {e : XE} {enc : α → PD} (f : α × Nat → PD) {l : List α} {Q : List PD → Prop} (h : ∀ (i : Nat) (hi : i < l.length), wp (g (.tuple [natD i, enc l[i]]) v) (tag fun v1 => wp (e v1) (tag fun d => d = f (l[i], i)))) (hq : Q (l.zipIdx.map f)) : wp (lcGo g xYes e v (pairsD (l.map enc))) (tag Q) :=
  wp_lcE (fun _ => true) f (fun i hi => wp_mono (h i hi) fun v1 h1 => ⟨true, rfl, rfl, fun _ => h1⟩) (by rw [List.filter_eq_self.mpr fun _ _ => rfl]; exact hq)
/-- a comprehension that draws; what is kept, by a word of each item -/
theorem wp_wl {g : XG} {t : XWT} {e : XW} {vs : List Nat} {xs : List PD} {Q : List PD × Env → Prop} (I : Nat → List PD → Env → Prop) (h0 : I 0 [] ρ) (hs : ∀ (i : Nat) (h : i < xs.length) (ds : List PD) (ρ : Env), I i ds ρ → wp (g xs[i] (clearE ρ vs)) (tag fun ρ1 => wp (t ρ1) (tag fun b => (b.1 = true → wp (e b.2) (tag fun d => Inv (tag (I (i + 1) (ds ++ [d.1]))) d.2)) ∧ (b.1 = false → Inv (tag (I (i + 1) ds)) b.2)))) (hq : ∀ ds ρ, I xs.length ds ρ → Q (ds, ρ)) : wp (wlGo g t e vs xs ρ) (tag Q) := by
  have main : ∀ (xs : List PD) (I : Nat → List PD → Env → Prop) (acc : List PD) (ρ : Env), I 0 acc ρ → (∀ (i : Nat) (h : i < xs.length) (ds : List PD) (ρ : Env), I i ds ρ → wp (g xs[i] (clearE ρ vs)) (tag fun ρ1 => wp (t ρ1) (tag fun b => (b.1 = true → wp (e b.2) (tag fun d => Inv (tag (I (i + 1) (ds ++ [d.1]))) d.2)) ∧ (b.1 = false → Inv (tag (I (i + 1) ds)) b.2)))) → ∃ ds ρ', wlGo g t e vs xs ρ = some (ds, ρ') ∧ I xs.length (acc ++ ds) ρ' := by
    intro xs
    induction xs with
    | nil => intro I acc ρ h0 _; exact ⟨[], ρ, rfl, by simpa using h0⟩
    | cons x xs ih =>
      intro I acc ρ h0 hs
      obtain ⟨ρ1, e1, ⟨b, ρ2⟩, e2, h1, h2⟩ := hs 0 (Nat.succ_pos _) acc ρ h0
      have e1 : g x (clearE ρ vs) = some ρ1 := e1
      unfold wlGo
      rw [e1, Option.bind_some, e2, Option.bind_some]
      cases b with
      | true =>
        obtain ⟨⟨d, ρ3⟩, e3, h3⟩ := h1 rfl
        obtain ⟨ds, ρ', e4, h4⟩ := ih (fun i => I (i + 1)) (acc ++ [d]) ρ3 h3.to fun i hi ds ρ hI => hs (i + 1) (Nat.succ_lt_succ hi) ds ρ hI
        refine ⟨d :: ds, ρ', ?_, by simpa using h4⟩
        have e3 : e ρ2 = some (d, ρ3) := e3
        simp only [if_true, e3, Option.bind_some, e4]
      | false =>
        obtain ⟨ds, ρ', e4, h4⟩ := ih (fun i => I (i + 1)) acc ρ2 (h2 rfl).to fun i hi ds ρ hI => hs (i + 1) (Nat.succ_lt_succ hi) ds ρ hI
        refine ⟨ds, ρ', ?_, by simpa using h4⟩
        simp [e4]
  obtain ⟨ds, ρ', e1, h1⟩ := main xs I [] ρ h0 hs
  exact ⟨_, e1, hq ds ρ' (by simpa using h1)⟩
theorem natD_toNat {r : Int} (h : 0 ≤ r) : natD r.toNat = .int r := by unfold natD; rw [Int.toNat_of_nonneg h]
theorem emod_nat {a b : Int} (hb : 0 < b) : ∃ j : Nat, (j : Int) < b ∧ a % b = (j : Int) := by
  have h1 := Int.emod_nonneg a (show b ≠ 0 by omega)
  have h2 := Int.emod_lt_of_pos a hb
  exact ⟨(a % b).toNat, by omega, by omega⟩
/-! ### places -/
theorem atI_nat' {α : Type} {xs : List α} {k : Nat} : atI xs (k : Int) = xs[k]? := by
  unfold atI ixN
  by_cases h : k < xs.length
  · rw [if_pos (by omega), if_pos (by omega)]
    simp
  · rw [if_pos (by omega), if_neg (by omega)]
    simp
    omega
theorem atI_at {α : Type} {xs : List α} {k : Nat} (h : k < xs.length) : atI xs (k : Int) = some xs[k] := by rw [atI_nat', List.getElem?_eq_getElem h]
theorem atI_map {α β : Type} {f : α → β} {xs : List α} {k : Nat} (h : k < xs.length) : atI (xs.map f) (k : Int) = some (f xs[k]) := by rw [atI_nat', List.getElem?_map, List.getElem?_eq_getElem h]; rfl
theorem atI_int {α β : Type} {f : α → β} {xs : List α} {k : Int} (h0 : 0 ≤ k) (h : k.toNat < xs.length) : atI (xs.map f) k = some (f xs[k.toNat]) := by
  obtain ⟨j, rfl⟩ : ∃ j : Nat, k = (j : Int) := ⟨k.toNat, by omega⟩
  exact atI_map (by simpa using h)
theorem atI_last {α : Type} {xs : List α} (h : xs ≠ []) : atI xs (-1) = some (xs.getLast h) := by
  unfold atI ixN
  have := List.length_pos_iff.mpr h
  rw [if_neg (by omega), if_pos (by omega)]
  simp [List.getLast_eq_getElem]
  rw [List.getElem?_eq_getElem (by omega)]
  congr 2
  omega
@[simp] theorem atI_0 {α : Type} {x : α} {xs : List α} : atI (x :: xs) 0 = some x := by simpa using atI_nat' (xs := x :: xs) (k := 0)
@[simp] theorem atI_1 {α : Type} {x y : α} {xs : List α} : atI (x :: y :: xs) 1 = some y := by simpa using atI_nat' (xs := x :: y :: xs) (k := 1)
@[simp] theorem atI_2 {α : Type} {x y z : α} {xs : List α} : atI (x :: y :: z :: xs) 2 = some z := by simpa using atI_nat' (xs := x :: y :: z :: xs) (k := 2)
@[simp] theorem atI_3 {α : Type} {x y z u : α} {xs : List α} : atI (x :: y :: z :: u :: xs) 3 = some u := by simpa using atI_nat' (xs := x :: y :: z :: u :: xs) (k := 3)
@[simp] theorem ixN_20 : ixN 2 0 = some 0 := (rfl)
@[simp] theorem ixN_21 : ixN 2 1 = some 1 := (rfl)
@[simp] theorem ixN_30 : ixN 3 0 = some 0 := (rfl)
@[simp] theorem ixN_31 : ixN 3 1 = some 1 := (rfl)
@[simp] theorem ixN_32 : ixN 3 2 = some 2 := (rfl)
@[simp] theorem ixN_40 : ixN 4 0 = some 0 := (rfl)
@[simp] theorem ixN_41 : ixN 4 1 = some 1 := (rfl)
@[simp] theorem ixN_42 : ixN 4 2 = some 2 := (rfl)
@[simp] theorem ixN_43 : ixN 4 3 = some 3 := (rfl)
theorem ixN_nat' {n k : Nat} (h : k < n) : ixN n (k : Int) = some k := by
  unfold ixN
  rw [if_pos (by omega), if_pos (by omega)]
  simp
theorem ixN_int {n : Nat} {k : Int} (h0 : 0 ≤ k) (h : k.toNat < n) : ixN n k = some k.toNat := by
  unfold ixN
  rw [if_pos (by omega), if_pos (by omega)]
@[simp] theorem datAt_0 {d : PD} {r : List Cel} : datAt (.dat d :: r) 0 = some d := (rfl)
@[simp] theorem datAt_S {c : Cel} {r : List Cel} {i : Nat} : datAt (c :: r) (i + 1) = datAt r i := (rfl)
@[simp] theorem subAt_0 {d : List PD} {r : List Cel} : subAt (.sub d :: r) 0 = some d := (rfl)
@[simp] theorem subAt_S {c : Cel} {r : List Cel} {i : Nat} : subAt (c :: r) (i + 1) = subAt r i := (rfl)
theorem subAt_set {os : List Cel} {s : Nat} {l : List PD} (h : s < os.length) : subAt (os.set s (.sub l)) s = some l := by
  unfold subAt
  rw [List.getElem?_set_self h]
/-- one of several, by a number -/
theorem wp_pick {α : Type} {l : List α} {r : Nat} {Q : α → Prop} (h : r < l.length) (hq : ∀ x ∈ l, Q x) : wp (atI l (r : Int)) (tag Q) := by
  rw [atI_at h]
  exact ⟨_, rfl, hq _ (List.getElem_mem h)⟩
/-! ### lists of numbers and truths -/
theorem unI_nats (ns : List Nat) : unI (ns.map natD) = some (ns.map fun (n : Nat) => (n : Int)) := by
  have e : ns.map natD = (ns.map fun (n : Nat) => (n : Int)).map PyData.int := by rw [List.map_map]; rfl
  rw [e]
  exact @unI_map kk0 _
theorem unI_of {α : Type} (f : α → Int) (l : List α) : unI (l.map fun x => PyData.int (f x)) = some (l.map f) := by
  have e : (l.map fun x => PyData.int (f x)) = (l.map f).map PyData.int := by rw [List.map_map]; rfl
  rw [e]
  exact @unI_map kk0 _
theorem unB_of {α : Type} (f : α → Bool) (l : List α) : unB (l.map fun x => PyData.bool (f x)) = some (l.map f) := by
  have e : (l.map fun x => PyData.bool (f x)) = (l.map f).map PyData.bool := by rw [List.map_map]; rfl
  rw [e]
  exact @unB_map kk0 _
end
end Uv
namespace Uv
theorem erase_perm {α : Type} : ∀ {l : List α} {j : Nat} (h : j < l.length), (l[j] :: l.eraseIdx j).Perm l
  | x :: xs, 0, _ => .refl _
  | x :: xs, j + 1, h => by
    have ih := erase_perm (l := xs) (j := j) (by simpa using h)
    simpa using (List.Perm.swap x (xs[j]'(by simpa using h)) (xs.eraseIdx j)).symm.symm.trans (ih.cons x)
theorem erase_map {α β : Type} (f : α → β) : ∀ (l : List α) (j : Nat), (l.map f).eraseIdx j = (l.eraseIdx j).map f
  | [], _ => rfl
  | x :: xs, 0 => rfl
  | x :: xs, j + 1 => by simp [erase_map f xs j]
end Uv

namespace Uv
open PySem PySem.Spec PyProof.Rows L2
/-! ### webs -/
structure Road where
  b : Option Nat
  e : Option Nat
  r : Int
structure Web where
  roads : List Road
  gives : List (List Nat)
  takes : List (List Nat)
def endD : Option Nat → PD
  | none => .none
  | some n => natD n
def roadD (x : Road) : PD := .tuple [endD x.b, endD x.e, .int x.r]
def natsD (l : List Nat) : PD := .tuple (l.map natD)
def webD (W : Web) : PD := .tuple [.tuple (W.roads.map roadD), .tuple (W.gives.map natsD), .tuple (W.takes.map natsD)]
def side (s : Nat) (x : Road) : Option Nat := if s = 0 then x.b else x.e
/-- the roads whose end of this side is the house -/
def atR (rs : List Road) (s h : Nat) : List Nat := (rs.zipIdx.filter fun p => side s p.1 == some h).map (·.2)
def OkRoad (n : Nat) (x : Road) : Prop := x.b ≠ x.e ∧ (∀ h, x.b = some h → h < n) ∧ (∀ h, x.e = some h → h < n) ∧ 0 ≤ x.r ∧ x.r ≤ 1000000000000
structure IsWeb (W : Web) : Prop where
  houses : 1 ≤ W.gives.length ∧ W.gives.length ≤ 8
  same : W.takes.length = W.gives.length
  count : 1 ≤ W.roads.length ∧ W.roads.length ≤ 20
  road : ∀ x ∈ W.roads, OkRoad W.gives.length x
  give : ∀ (h : Nat) (l : List Nat), W.gives[h]? = some l → l.Perm (atR W.roads 0 h)
  take : ∀ (h : Nat) (l : List Nat), W.takes[h]? = some l → l.Perm (atR W.roads 1 h)
theorem atR_lt {rs : List Road} {s h k : Nat} (hk : k ∈ atR rs s h) : k < rs.length := by
  unfold atR at hk
  obtain ⟨⟨x, j⟩, h1, rfl⟩ := List.mem_map.mp hk
  have h2 := (List.mem_filter.mp h1).1
  have h3 := List.mem_zipIdx h2
  simp at h3
  omega
theorem zip_sorted {α : Type} : ∀ (xs : List α) (n : Nat) (p : α × Nat → Bool), (((xs.zipIdx n).filter p).map (·.2)).Pairwise (· < ·) ∧ ∀ k ∈ ((xs.zipIdx n).filter p).map (·.2), n ≤ k
  | [], n, p => by simp
  | x :: xs, n, p => by
    obtain ⟨h1, h2⟩ := zip_sorted xs (n + 1) p
    rw [List.zipIdx_cons, List.filter_cons]
    by_cases c : p (x, n) = true
    · rw [if_pos c, List.map_cons]
      refine ⟨List.pairwise_cons.mpr ⟨fun k hk => by have := h2 k hk; show n < k; omega, h1⟩, fun k hk => ?_⟩
      rcases List.mem_cons.mp hk with e | e
      · rw [e]; exact Nat.le_refl _
      · have := h2 k e; omega
    · rw [if_neg c]
      exact ⟨h1, fun k hk => by have := h2 k hk; omega⟩
theorem atR_sorted (rs : List Road) (s h : Nat) : (atR rs s h).Pairwise (· < ·) := (zip_sorted rs 0 _).1
/-- the rising list of a house's roads is what any order of them is when sorted -/
theorem sort_perm {l m : List Nat} (p : l.Perm m) (hm : m.Pairwise (· < ·)) : sortI (l.map fun (n : Nat) => (n : Int)) = m.map fun (n : Nat) => (n : Int) := by
  refine @sorted_eq kk0 _ _ ((@sortI_perm kk0 _).trans (p.map _)) (@sortI_sorted kk0 _) ?_
  rw [List.pairwise_map]
  exact hm.imp fun h => by omega
end Uv

namespace Uv
open PySem PySem.Spec PyProof.Rows L2
/-! ### what repr tells, and what may be compared -/
theorem ok_app {a b : Str} (ha : PyData.strOk a = true) (hb : PyData.strOk b = true) : PyData.strOk (a ++ b) = true := by
  show ((a.cps ++ b.cps).all _) = true
  rw [Array.all_append]
  exact Bool.and_eq_true_iff.mpr ⟨ha, hb⟩
theorem ok_ofS (x : String) : PyData.strOk (Str.ofString x) = true := by
  rw [Str.ofString_eq_toList]
  unfold PyData.strOk
  simp only [List.all_toArray, List.all_map, List.all_eq_true]
  intro c _
  have := c.valid
  simp only [Function.comp_apply, decide_eq_true_eq]
  have h : c.toNat = c.val.toNat := rfl
  rcases this with h1 | h1
  · omega
  · omega
theorem ok_join {sep : Str} (hs : PyData.strOk sep = true) : ∀ {ts : List Str}, (∀ t ∈ ts, PyData.strOk t = true) → PyData.strOk (Str.join sep ts) = true
  | [], _ => by simp [Str.join, Str.empty, PyData.strOk]
  | [t], h => h t (List.mem_cons_self ..)
  | t :: u :: r, h => by
    show PyData.strOk (t ++ sep ++ Str.join sep (u :: r)) = true
    exact ok_app (ok_app (h t (List.mem_cons_self ..)) hs) (ok_join hs fun x hx => h x (List.mem_cons_of_mem _ hx))
theorem ok_from : ∀ {ts : List Str} {k : Nat} {acc : Str}, PyData.strOk acc = true → (∀ t ∈ ts, PyData.strOk t = true) → PyData.strOk (textFrom k acc ts) = true
  | [], _, _, ha, _ => ha
  | t :: r, k, acc, ha, h => by
    show PyData.strOk (textFrom (k + 1) _ r) = true
    exact ok_from (ok_app (ok_app ha (ok_ofS _)) (h t (List.mem_cons_self ..))) fun x hx => h x (List.mem_cons_of_mem _ hx)
structure Sho (k n : Nat) (d : PD) : Prop where
  sh : d.showable = true
  nd : d.hasDict = false
  dp : d.depth ≤ k
  ln : d.shown.length ≤ n
  ok : PyData.strOk d.shown = true
section
variable {k n : Nat} {d : PD} {ds : List PD}
theorem Sho.mono {k' n' : Nat} (h : Sho k n d) (hk : k ≤ k') (hn : n ≤ n') : Sho k' n' d := ⟨h.sh, h.nd, Nat.le_trans h.dp hk, Nat.le_trans h.ln hn, h.ok⟩
theorem Sho.non : Sho k 5 .none := ⟨rfl, rfl, Nat.zero_le _, by decide, ok_ofS _⟩
theorem Sho.bool {b : Bool} : Sho k 5 (.bool b) := ⟨rfl, rfl, Nat.zero_le _, by cases b <;> decide, by cases b <;> exact ok_ofS _⟩
theorem Sho.int {i : Int} (h : i.natAbs < 10 ^ 40) : Sho k 41 (.int i) := by
  refine ⟨?_, rfl, Nat.zero_le _, ?_, ok_ofS _⟩
  · rw [PyData.showable, decide_eq_true_eq]
    by_cases c : i.natAbs = 0
    · rw [c]; decide
    · have : i.natAbs.log2 < 140 := (Nat.log2_lt c).mpr (Nat.lt_of_lt_of_le h (by decide))
      omega
  · show (Str.ofString (toString i)).length ≤ 41
    rw [PySem.ofString_length]
    exact int_text_length_le10 (k := 40) (by decide) h
theorem all_show (h : ∀ d ∈ ds, PyData.showable d = true) : PyData.showableAll ds = true := by
  induction ds with
  | nil => rfl
  | cons d ds ih => rw [PyData.showableAll, h d (List.mem_cons_self ..), ih fun x hx => h x (List.mem_cons_of_mem _ hx)]; rfl
theorem all_noD (h : ∀ d ∈ ds, PyData.hasDict d = false) : PyData.hasDictAll ds = false := by
  induction ds with
  | nil => rfl
  | cons d ds ih => rw [PyData.hasDictAll, h d (List.mem_cons_self ..), ih fun x hx => h x (List.mem_cons_of_mem _ hx)]; rfl
theorem all_depth (h : ∀ d ∈ ds, PyData.depth d ≤ n) : PyData.depthAll ds ≤ n := by
  induction ds with
  | nil => exact Nat.zero_le _
  | cons d ds ih =>
    have h1 := h d (List.mem_cons_self ..)
    have h2 := ih fun x hx => h x (List.mem_cons_of_mem _ hx)
    rw [PyData.depthAll]
    omega
theorem all_shown (h : ∀ d ∈ ds, PyData.strOk d.shown = true) : ∀ t ∈ PyData.shownAll ds, PyData.strOk t = true := by
  induction ds with
  | nil => intro t ht; exact nomatch ht
  | cons d ds ih =>
    intro t ht
    rw [PyData.shownAll] at ht
    rcases List.mem_cons.mp ht with e | e
    · rw [e]; exact h d (List.mem_cons_self ..)
    · exact ih (fun x hx => h x (List.mem_cons_of_mem _ hx)) t e
theorem all_len (h : ∀ d ∈ ds, d.shown.length ≤ n) : ((PyData.shownAll ds).map (·.length)).sum + 2 * (PyData.shownAll ds).length ≤ ds.length * (n + 2) := by
  induction ds with
  | nil => exact Nat.zero_le _
  | cons d ds ih =>
    have h1 := h d (List.mem_cons_self ..)
    have h2 := ih fun x hx => h x (List.mem_cons_of_mem _ hx)
    rw [PyData.shownAll]
    simp only [List.map_cons, List.sum_cons, List.length_cons, Nat.succ_mul]
    omega
theorem Sho.tup {L : Nat} (h : ∀ d ∈ ds, Sho k n d) (hl : ds.length ≤ L) : Sho (k + 1) (L * (n + 2) + 3) (.tuple ds) := by
  refine ⟨all_show fun d hd => (h d hd).sh, all_noD fun d hd => (h d hd).nd, Nat.succ_le_succ (all_depth fun d hd => (h d hd).dp), ?_, ?_⟩
  · have h1 := tupleText_len_le (PyData.shownAll ds)
    have h2 := all_len fun d hd => (h d hd).ln
    have h3 := Nat.mul_le_mul_right (n + 2) hl
    show (tupleText (PyData.shownAll ds)).length ≤ _
    omega
  · exact ok_app (ok_app (ok_ofS _) (ok_join (ok_ofS _) (all_shown fun d hd => (h d hd).ok))) (ok_ofS _)
theorem Sho.lst {L : Nat} (h : ∀ d ∈ ds, Sho k n d) (hl : ds.length ≤ L) : Sho (k + 1) (L * (n + 2) + 3) (.list ds) := by
  refine ⟨all_show fun d hd => (h d hd).sh, all_noD fun d hd => (h d hd).nd, Nat.succ_le_succ (all_depth fun d hd => (h d hd).dp), ?_, ?_⟩
  · have h1 := listText_len_le (PyData.shownAll ds)
    have h2 := all_len fun d hd => (h d hd).ln
    have h3 := Nat.mul_le_mul_right (n + 2) hl
    show (listText (PyData.shownAll ds)).length ≤ _
    omega
  · exact ok_app (ok_from (ok_ofS _) (all_shown fun d hd => (h d hd).ok)) (ok_ofS _)
theorem Sho.nat {j : Nat} (h : j < 10 ^ 40) : Sho k 41 (natD j) := Sho.int (by show (j : Int).natAbs < _; omega)
theorem Sho.nats {l : List Nat} {L : Nat} (h : ∀ j ∈ l, j < 10 ^ 40) (hl : l.length ≤ L) : Sho (k + 1) (L * 43 + 3) (natsD l) := Sho.tup (fun d hd => by obtain ⟨j, hj, rfl⟩ := List.mem_map.mp hd; exact Sho.nat (h j hj)) (by simpa using hl)
theorem Sho.can (h : Sho 60 10000000 d) : CanShow d := ⟨h.sh, h.nd, h.dp, Nat.le_trans h.ln (by rw [sizeLine_eq]; decide)⟩
theorem rp_of (h : Sho 60 10000000 d) : reprP d = some (.str d.shown) := by
  unfold reprP
  rw [if_pos h.can]
theorem ne_str {x : Str} (h : PyData.strOk x = true) : neP (.str x) (.str x) = some (.bool false) := by
  have e : SeqAt.shaped (.str x) = true := by
    unfold SeqAt.shaped
    rw [show PyData.canLay0 (.str x) = PyData.strOk x by simp [PyData.canLay0], h]
    rfl
  unfold neP
  rw [if_pos ⟨e, e⟩]
  simp [PyData.eqv]
theorem eq_str {x : Str} (h : PyData.strOk x = true) : eqP (.str x) (.str x) = some (.bool true) := by
  have e : SeqAt.shaped (.str x) = true := by
    unfold SeqAt.shaped
    rw [show PyData.canLay0 (.str x) = PyData.strOk x by simp [PyData.canLay0], h]
    rfl
  unfold eqP
  rw [if_pos ⟨e, e⟩]
  simp [PyData.eqv]
theorem ne_shown (h : Sho 60 10000000 d) : neP (.str d.shown) (.str d.shown) = some (.bool false) := ne_str h.ok
theorem eq_shown (h : Sho 60 10000000 d) : eqP (.str d.shown) (.str d.shown) = some (.bool true) := eq_str h.ok
/-! what may be compared -/
structure Lay (k : Nat) (d : PD) : Prop where
  cl : d.canLay0 = true
  dp : d.depth ≤ k
theorem all_lay (h : ∀ d ∈ ds, PyData.canLay0 d = true) : PyData.canLayAll0 ds = true := by
  induction ds with
  | nil => rfl
  | cons d ds ih => rw [PyData.canLayAll0, h d (List.mem_cons_self ..), ih fun x hx => h x (List.mem_cons_of_mem _ hx)]; rfl
theorem Lay.non : Lay k .none := ⟨rfl, Nat.zero_le _⟩
theorem Lay.bool {b : Bool} : Lay k (.bool b) := ⟨rfl, Nat.zero_le _⟩
theorem Lay.int {i : Int} : Lay k (.int i) := ⟨rfl, Nat.zero_le _⟩
theorem Lay.tup (h : ∀ d ∈ ds, Lay k d) : Lay (k + 1) (.tuple ds) := ⟨all_lay fun d hd => (h d hd).cl, Nat.succ_le_succ (all_depth fun d hd => (h d hd).dp)⟩
theorem Lay.lst (h : ∀ d ∈ ds, Lay k d) : Lay (k + 1) (.list ds) := ⟨all_lay fun d hd => (h d hd).cl, Nat.succ_le_succ (all_depth fun d hd => (h d hd).dp)⟩
theorem Lay.mono {k' : Nat} (h : Lay k d) (hk : k ≤ k') : Lay k' d := ⟨h.cl, Nat.le_trans h.dp hk⟩
theorem Lay.sh (h : Lay 60 d) : SeqAt.shaped d = true := by
  unfold SeqAt.shaped
  rw [h.cl, Bool.true_and, decide_eq_true_eq]
  exact Nat.le_trans h.dp (by decide)
theorem Lay.map {α : Type} {f : α → PD} {l : List α} (h : ∀ x, Lay k (f x)) : ∀ d ∈ l.map f, Lay k d := fun d hd => by obtain ⟨x, _, rfl⟩ := List.mem_map.mp hd; exact h x
theorem Lay.natsT {l : List Nat} : Lay (k + 1) (.tuple (l.map natD)) := Lay.tup (Lay.map fun _ => Lay.int)
theorem Lay.natsL {l : List Nat} : Lay (k + 1) (.list (l.map natD)) := Lay.lst (Lay.map fun _ => Lay.int)
theorem eqP_lay {e : PD} (h : Lay 60 d) (h' : Lay 60 e) : eqP d e = some (.bool (PyData.eqv d e)) := by unfold eqP; rw [if_pos ⟨h.sh, h'.sh⟩]
theorem neP_lay {e : PD} (h : Lay 60 d) (h' : Lay 60 e) : neP d e = some (.bool (!PyData.eqv d e)) := by unfold neP; rw [if_pos ⟨h.sh, h'.sh⟩]
theorem eqv_nats {l m : List Nat} : PyData.eqvAll (l.map natD) (m.map natD) = (l == m) := by
  induction l generalizing m with
  | nil => cases m <;> rfl
  | cons x xs ih => cases m with
    | nil => rfl
    | cons y ys =>
      have e : ((x : Int) == (y : Int)) = (x == y) := Bool.eq_iff_iff.mpr (by simp; omega)
      simp [PyData.eqvAll, PyData.eqv, ih, e]
theorem eqv_ints {l m : List Int} : PyData.eqvAll (l.map PyData.int) (m.map PyData.int) = (l == m) := by
  induction l generalizing m with
  | nil => cases m <;> rfl
  | cons x xs ih => cases m with
    | nil => rfl
    | cons y ys => simp [PyData.eqvAll, PyData.eqv, ih]
end
end Uv

namespace Uv
open PySem PySem.Spec PyProof.Rows L2
/-! ### things as data, and what is asked of them -/
structure Tie where
  g : Nat
  t : Nat
  r : Int
structure Seat where
  much : Int
  order : List Nat
structure Fair where
  ties : List Tie
  givers : List Seat
  takers : List Seat
def intsD (l : List Int) : PD := .tuple (l.map PyData.int)
def tieD (x : Tie) : PD := .tuple [natD x.g, natD x.t, .int x.r]
def seatD (x : Seat) : PD := .tuple [.int x.much, natsD x.order]
def fairD (F : Fair) : PD := .tuple [.tuple (F.ties.map tieD), .tuple (F.givers.map seatD), .tuple (F.takers.map seatD)]
section
variable {ρ : Env} {v : VE}
@[simp] theorem q_star {a : XE} {as : XA} : xStar a as v = (a v).bind fun x => (partsP x).bind fun xs => (as v).bind fun ys => some (xs ++ ys) := (rfl)
@[simp] theorem q_parts_t {ds : List PD} : partsP (.tuple ds) = some ds := (rfl)
@[simp] theorem q_parts_l {ds : List PD} : partsP (.list ds) = some ds := (rfl)
@[simp] theorem q_cat {xs ys : List PD} : catP (.list xs) (.list ys) = grd (xs.length + ys.length ≤ 100000) (some (.list (xs ++ ys))) := by unfold catP; simp only [grd_ite]
@[simp] theorem q_rep {xs : List PD} {j : Int} : repP (.list xs) (.int j) = grd (0 ≤ j ∧ j ≤ 100000 ∧ xs.length * j.toNat ≤ 100000) (some (.list (List.replicate j.toNat xs).flatten)) := by unfold repP; simp only [grd_ite]
@[simp] theorem q_mul_l {xs : List PD} {j : Int} : mulP (.list xs) (.int j) = grd (0 ≤ j ∧ j ≤ 100000 ∧ xs.length * j.toNat ≤ 100000) (some (.list (List.replicate j.toNat xs).flatten)) := by unfold mulP; simp only [grd_ite]
@[simp] theorem q_wOO {f : PD → PD → Option PD} {a b : XW} : wOO f a b ρ = (a ρ).bind fun x => (b x.2).bind fun y => ((f x.1 y.1).bind asList).bind fun ds => some (dats ds, y.2) := (rfl)
@[simp] theorem q_xCut {a : XE} {lo hi : XO} : xCut a lo hi v = (a v).bind fun d => (lo v).bind fun l => (hi v).bind fun h => cutP d l h := (rfl)
@[simp] theorem q_cutP_l {ds : List PD} {l h : Option Int} : cutP (.list ds) l h = some (.list (cutD ds l h)) := (rfl)
@[simp] theorem q_cutP_s {ds : List PD} {l h : Option Int} : cutP (scrD ds) l h = some (.list (cutD ds l h)) := (rfl)
end
section
variable {l : List Nat} {m : List Int} {W : Web} {F : Fair} {x : Road} {t : Tie} {s : Seat} {i : Int} {k : Nat}
/-! tuples of numbers -/
@[simp] theorem n_seq : seqP (natsD l) = some (l.map natD) := (rfl)
@[simp] theorem n_len : lenP (natsD l) = some (natD l.length) := by unfold natsD; simp
@[simp] theorem n_ix : ixP (natsD l) (.int i) = atI (l.map natD) i := (rfl)
@[simp] theorem n_tup : tupP (natsD l) = some (natsD l) := (rfl)
@[simp] theorem n_lst : listP (natsD l) = some (.list (l.map natD)) := (rfl)
@[simp] theorem n_parts : partsP (natsD l) = some (l.map natD) := (rfl)
@[simp] theorem n_full : full (natsD l) = false := (rfl)
@[simp] theorem n_isT : isTy .tuple (natsD l) = true := (rfl)
@[simp] theorem n_enum : enumP [natsD l] = some (pairsD (l.map natD)) := (rfl)
@[simp] theorem n_none : isNone (natsD l) = false := (rfl)
@[simp] theorem n_addR {ds : List PD} : addP (.tuple ds) (natsD l) = grd (ds.length + l.length ≤ 100000) (some (.tuple (ds ++ l.map natD))) := by
  unfold natsD
  rw [q_add_t, List.length_map]
theorem flats_of {ds : List PD} (h : ∀ d ∈ ds, flat d = true) : flats ds = true := by
  induction ds with
  | nil => rfl
  | cons d ds ih => rw [q_flats_cons, h d (List.mem_cons_self ..), ih fun x hx => h x (List.mem_cons_of_mem _ hx)]; rfl
theorem flats_map {α : Type} {f : α → PD} {l : List α} (h : ∀ x, flat (f x) = true) : flats (l.map f) = true := flats_of fun d hd => by obtain ⟨x, _, rfl⟩ := List.mem_map.mp hd; exact h x
@[simp] theorem n_flat : flat (natsD l) = true := by unfold natsD; rw [q_flat_t]; exact flats_map fun _ => q_flat_i
@[simp] theorem n_flats : flats (l.map natD) = true := flats_map fun _ => q_flat_i
@[simp] theorem i_flats : flats (m.map PyData.int) = true := flats_map fun _ => q_flat_i
@[simp] theorem i_seq : seqP (intsD m) = some (m.map PyData.int) := (rfl)
@[simp] theorem i_len : lenP (intsD m) = some (natD m.length) := by unfold intsD; simp
@[simp] theorem i_ix : ixP (intsD m) (.int i) = atI (m.map PyData.int) i := (rfl)
@[simp] theorem i_tup : tupP (intsD m) = some (intsD m) := (rfl)
@[simp] theorem i_lst : listP (intsD m) = some (.list (m.map PyData.int)) := (rfl)
@[simp] theorem i_parts : partsP (intsD m) = some (m.map PyData.int) := (rfl)
@[simp] theorem i_full : full (intsD m) = false := (rfl)
@[simp] theorem i_isT : isTy .tuple (intsD m) = true := (rfl)
@[simp] theorem i_enum : enumP [intsD m] = some (pairsD (m.map PyData.int)) := (rfl)
@[simp] theorem i_none : isNone (intsD m) = false := (rfl)
@[simp] theorem i_flat : flat (intsD m) = true := by unfold intsD; rw [q_flat_t]; exact i_flats
theorem memInt_nat {l : List Nat} {k : Nat} : ((k : Int) ∈ l.map fun (n : Nat) => (n : Int)) ↔ k ∈ l := by
  constructor
  · intro h
    obtain ⟨j, hj, e⟩ := List.mem_map.mp h
    have e : (j : Int) = (k : Int) := e
    have : j = k := by omega
    subst this
    exact hj
  · exact fun h => List.mem_map.mpr ⟨k, h, rfl⟩
theorem idx_nat {l : List Nat} {k : Nat} : (l.map fun (n : Nat) => (n : Int)).idxOf (k : Int) = l.idxOf k := by
  induction l with
  | nil => rfl
  | cons x xs ih =>
    rw [List.map_cons, List.idxOf_cons, List.idxOf_cons, ih]
    have e : ((x : Int) == (k : Int)) = (x == k) := Bool.eq_iff_iff.mpr (by simp; omega)
    rw [e]
theorem n_idx (h : k ∈ l) : idxP (natsD l) (natD k) = some (natD (l.idxOf k)) := by
  unfold natsD idxP
  simp only [unI_nats, Option.bind_some]
  rw [if_pos (memInt_nat.mpr h), idx_nat]
theorem n_idxL (h : k ∈ l) : idxP (.list (l.map natD)) (natD k) = some (natD (l.idxOf k)) := by
  have hf : (l.map natD).findIdx? (fun z => PyData.eqv z (natD k)) = some (l.idxOf k) := by
    induction l with
    | nil => exact nomatch h
    | cons x xs ih =>
      rw [List.map_cons, List.findIdx?_cons, List.idxOf_cons]
      have e : PyData.eqv (natD x) (natD k) = (x == k) := by
        show ((x : Int) == (k : Int)) = _
        exact Bool.eq_iff_iff.mpr (by simp; omega)
      rw [e]
      by_cases c : x = k
      · simp [c]
      · have hk : k ∈ xs := (List.mem_cons.mp h).resolve_left fun z => c z.symm
        have e2 : (x == k) = false := by simpa using c
        rw [e2]
        simp [ih hk]
  unfold idxP
  dsimp only
  rw [if_pos ⟨(Lay.natsL (k := 59)).sh, (Lay.int (k := 60)).sh⟩, hf]
/-! webs -/
@[simp] theorem w_seq : seqP (webD W) = some [.tuple (W.roads.map roadD), .tuple (W.gives.map natsD), .tuple (W.takes.map natsD)] := (rfl)
@[simp] theorem w_0 : ixP (webD W) (.int 0) = some (.tuple (W.roads.map roadD)) := (rfl)
@[simp] theorem w_1 : ixP (webD W) (.int 1) = some (.tuple (W.gives.map natsD)) := (rfl)
@[simp] theorem w_2 : ixP (webD W) (.int 2) = some (.tuple (W.takes.map natsD)) := (rfl)
@[simp] theorem w_full : full (webD W) = false := (rfl)
@[simp] theorem w_none : isNone (webD W) = false := (rfl)
@[simp] theorem r_seq : seqP (roadD x) = some [endD x.b, endD x.e, .int x.r] := (rfl)
@[simp] theorem r_0 : ixP (roadD x) (.int 0) = some (endD x.b) := (rfl)
@[simp] theorem r_1 : ixP (roadD x) (.int 1) = some (endD x.e) := (rfl)
@[simp] theorem r_2 : ixP (roadD x) (.int 2) = some (.int x.r) := (rfl)
@[simp] theorem e_none {o : Option Nat} : isNone (endD o) = o.isNone := by cases o <;> rfl
@[simp] theorem e_flat {o : Option Nat} : flat (endD o) = true := by cases o <;> simp [endD]
@[simp] theorem r_flat : flat (roadD x) = true := by simp [roadD]
theorem eq_end {o : Option Nat} {h : Nat} : eqP (endD o) (natD h) = some (.bool (o == some h)) := by
  cases o with
  | none => rfl
  | some n => simp [endD]; exact Bool.eq_iff_iff.mpr (by simp; omega)
/-! fairs -/
@[simp] theorem f_seq : seqP (fairD F) = some [.tuple (F.ties.map tieD), .tuple (F.givers.map seatD), .tuple (F.takers.map seatD)] := (rfl)
@[simp] theorem f_0 : ixP (fairD F) (.int 0) = some (.tuple (F.ties.map tieD)) := (rfl)
@[simp] theorem f_1 : ixP (fairD F) (.int 1) = some (.tuple (F.givers.map seatD)) := (rfl)
@[simp] theorem f_2 : ixP (fairD F) (.int 2) = some (.tuple (F.takers.map seatD)) := (rfl)
@[simp] theorem f_full : full (fairD F) = false := (rfl)
@[simp] theorem f_isT : isTy .tuple (fairD F) = true := (rfl)
@[simp] theorem f_len : lenP (fairD F) = some (natD 3) := (rfl)
@[simp] theorem t_seq : seqP (tieD t) = some [natD t.g, natD t.t, .int t.r] := (rfl)
@[simp] theorem t_0 : ixP (tieD t) (.int 0) = some (natD t.g) := (rfl)
@[simp] theorem t_1 : ixP (tieD t) (.int 1) = some (natD t.t) := (rfl)
@[simp] theorem t_2 : ixP (tieD t) (.int 2) = some (.int t.r) := (rfl)
@[simp] theorem t_full : full (tieD t) = false := (rfl)
@[simp] theorem t_isT : isTy .tuple (tieD t) = true := (rfl)
@[simp] theorem t_len : lenP (tieD t) = some (natD 3) := (rfl)
@[simp] theorem t_flat : flat (tieD t) = true := by simp [tieD]
@[simp] theorem s_seq : seqP (seatD s) = some [.int s.much, natsD s.order] := (rfl)
@[simp] theorem s_0 : ixP (seatD s) (.int 0) = some (.int s.much) := (rfl)
@[simp] theorem s_1 : ixP (seatD s) (.int 1) = some (natsD s.order) := (rfl)
@[simp] theorem s_full : full (seatD s) = false := (rfl)
@[simp] theorem s_isT : isTy .tuple (seatD s) = true := (rfl)
@[simp] theorem s_len : lenP (seatD s) = some (natD 2) := (rfl)
@[simp] theorem s_flat : flat (seatD s) = true := by simp [seatD]
end
/-! truth of types -/
section
variable {i : Int} {b : Bool} {x : Str} {ds : List PD}
@[simp] theorem ty_ii : isTy .int (.int i) = true := (rfl)
@[simp] theorem ty_bi : isTy .bool (.int i) = false := (rfl)
@[simp] theorem ty_ti : isTy .tuple (.int i) = false := (rfl)
@[simp] theorem ty_ib : isTy .int (.bool b) = true := (rfl)
@[simp] theorem ty_bb : isTy .bool (.bool b) = true := (rfl)
@[simp] theorem ty_tt : isTy .tuple (.tuple ds) = true := (rfl)
@[simp] theorem ty_it : isTy .int (.tuple ds) = false := (rfl)
@[simp] theorem ty_bt : isTy .bool (.tuple ds) = false := (rfl)
@[simp] theorem ty_st : isTy .str (.tuple ds) = false := (rfl)
@[simp] theorem ty_in : isTy .int .none = false := (rfl)
@[simp] theorem ty_bn : isTy .bool .none = false := (rfl)
@[simp] theorem ty_tn : isTy .tuple .none = false := (rfl)
@[simp] theorem ty_sn : isTy .str .none = false := (rfl)
@[simp] theorem ty_si : isTy .str (.int i) = false := (rfl)
@[simp] theorem ty_sb : isTy .str (.bool b) = false := (rfl)
@[simp] theorem ty_tb : isTy .tuple (.bool b) = false := (rfl)
/-! sums, all, any over lists of a shape -/
theorem q_sum {α : Type} {f : α → Int} {l : List α} : sumP (.list (l.map fun x => .int (f x))) = some (.int (l.map f).sum) := by
  unfold sumP intsP
  simp only [unI_of, Option.bind_some]
theorem q_sumI {l : List Int} : sumP (.list (l.map PyData.int)) = some (.int l.sum) := by
  unfold sumP intsP
  simp only [@unI_map kk0, Option.bind_some]
theorem q_all {α : Type} {f : α → Bool} {l : List α} : allP (.list (l.map fun x => .bool (f x))) = some (.bool (l.all f)) := by
  unfold allP boolsP
  simp only [unB_of, Option.bind_some, List.all_map]
  rfl
theorem q_any {α : Type} {f : α → Bool} {l : List α} : anyP (.list (l.map fun x => .bool (f x))) = some (.bool (l.any f)) := by
  unfold anyP boolsP
  simp only [unB_of, Option.bind_some, List.any_map]
  rfl
@[simp] theorem all_tt {α : Type} {l : List α} : (l.all fun _ => true) = true := List.all_eq_true.mpr fun _ _ => rfl
theorem q_sort {l : List Nat} : sortP (natsD l) = some (.list ((sortI (l.map fun (n : Nat) => (n : Int))).map PyData.int)) := by
  unfold natsD sortP
  simp only [unI_nats, Option.bind_some]
end
end Uv

namespace Fn
open PySem PySem.Spec PyProof.Rows L2 Uv
-- _law_deck_e: 0 _law_script, 1 _law_cell
@[irreducible] def X__law_deck_e : XS :=
    sRetO (wOL (wcSub (wOM (xLc (xiE (xSl (xVar 0) xNoPart (xPart (xC (.int 63))))) (gvName 1) xYes (xCB (on1 absP) (xCons (xVar 1) xNil)) [1])) (wcDat (wM (xC (.int 0))) wcNil)))
@[irreducible] def F__law_deck_e : List PD → Option (List Cel) := runD 1 1 X__law_deck_e
-- _law_fair_b: 0 _law_web, 1 _law_roads*, 2 _law_gives, 3 _law_takes, 4 _law_houses, 5 _law_big, 6 _law_outer, 7 _law_ties, 8 _law_number, 9 _law_road, 10 _law_seats, 11 _law_side, 12 _law_givers, 13 _law_takers, 14 _law_house, 15 _law_first
@[irreducible] def X__law_fair_b_b1 : XS :=
    sApp 10 (wM (xIf (xB (xOp isntU (xOp ixP (xVar 9) (xVar 11)) (xC .none))) (xOp ixP (xVar 9) (xVar 11)) (xOp addP (xVar 4) (xIdx (xOp ixP (xVar 6) (xVar 11)) (xVar 8)))))
@[irreducible] def X__law_fair_b_b2 : XS :=
    sSeq (sOwn 10 (wOL wcNil))
    (sSeq (sFor (wiA rngP (wCons (wM (xC (.int 2))) wNil)) (gName' 11) X__law_fair_b_b1)
    (sFz 10 (sApp 7 (wM (xTup (xCons (xOp ixP (xVar 10) (xC (.int 0))) (xCons (xOp ixP (xVar 10) (xC (.int 1))) (xCons (xOp ixP (xVar 9) (xC (.int 2))) xNil))))))))
@[irreducible] def X__law_fair_b_b3 : XS :=
    sSeq (sAsg (gName' 15) (wM (xCB (on1 lenP) (xCons (xVar 7) xNil))))
    (sSeq (sOwn 7 (wOM (xOp catP (xVar 7) (xOp mulP (xLst (xCons (xTup (xCons (xVar 14) (xCons (xVar 14) (xCons (xVar 5) xNil)))) xNil)) (xC (.int 2))))))
    (sFz 7 (sSeq (sApp 12 (wM (xTup (xCons (xVar 5) (xCons (xOp addP (xOp addP (xTup (xCons (xVar 15) xNil)) (xOp ixP (xVar 2) (xVar 14))) (xTup (xCons (xOp addP (xVar 15) (xC (.int 1))) xNil))) xNil)))))
    (sApp 13 (wM (xTup (xCons (xVar 5) (xCons (xOp addP (xOp addP (xTup (xCons (xOp addP (xVar 15) (xC (.int 1))) xNil)) (xOp ixP (xVar 3) (xVar 14))) (xTup (xCons (xVar 15) xNil))) xNil))))))))
@[irreducible] def X__law_fair_b : XS :=
    sSeq (sAsg (gTup' 3 (gCons' (gName' 1) (gCons' (gName' 2) (gCons' (gName' 3) gNil')))) (wM (xVar 0)))
    (sSeq (sAsg (gName' 4) (wM (xCB (on1 lenP) (xCons (xVar 2) xNil))))
    (sSeq (sAsg (gName' 5) (wM (xOp addP (xC (.int 1)) (xCB (on1 sumP) (xCons (xLc (xiE (xVar 1)) (gvName 9) xYes (xOp ixP (xVar 9) (xC (.int 2))) [9]) xNil)))))
    (sSeq (sAsg (gName' 6) (wM (xLc (xiA rngP (xCons (xC (.int 2)) xNil)) (gvName 11) xYes (xLc (xiA enumP (xCons (xVar 1) xNil)) (gvTup 2 (gvCons (gvName 8) (gvCons (gvName 9) gvNil))) (xB (xOp isU (xOp ixP (xVar 9) (xVar 11)) (xC .none))) (xVar 8) [8, 9]) [11])))
    (sSeq (sOwn 7 (wOL wcNil))
    (sSeq (sFor (wiA enumP (wCons (wM (xVar 1)) wNil)) (gTup' 2 (gCons' (gName' 8) (gCons' (gName' 9) gNil'))) X__law_fair_b_b2)
    (sFz 7 (sSeq (sPar 12 13 (wcSub (wOL wcNil) (wcSub (wOL wcNil) wcNil)))
    (sSeq (sFor (wiA rngP (wCons (wM (xVar 4)) wNil)) (gName' 14) X__law_fair_b_b3)
    (sFz 13 (sFz 12 (sSeq (sOwn 12 (wOM (xOp catP (xVar 12) (xLc (xiE (xOp ixP (xVar 6) (xC (.int 0)))) (gvName 8) xYes (xTup (xCons (xOp ixP (xOp ixP (xVar 1) (xVar 8)) (xC (.int 2))) (xCons (xTup (xCons (xVar 8) xNil)) xNil))) [8]))))
    (sFz 12 (sSeq (sOwn 13 (wOM (xOp catP (xVar 13) (xLc (xiE (xOp ixP (xVar 6) (xC (.int 1)))) (gvName 8) xYes (xTup (xCons (xOp ixP (xOp ixP (xVar 1) (xVar 8)) (xC (.int 2))) (xCons (xTup (xCons (xVar 8) xNil)) xNil))) [8]))))
    (sFz 13 (sRet (wM (xTup (xCons (xCB (on1 tupP) (xCons (xVar 7) xNil)) (xCons (xCB (on1 tupP) (xCons (xVar 12) xNil)) (xCons (xCB (on1 tupP) (xCons (xVar 13) xNil)) xNil))))))))))))))))))))
@[irreducible] def F__law_fair_b : List PD → Option PD := runP 1 15 X__law_fair_b
-- _law_draw_b: 0 _law_deck_here, 1 _law_many, 2 _law_cell, 3 _law_place, 4 _law_mixed
@[irreducible] def X__law_draw_b : XS :=
    sSeq (sSet 0 (xC (.int 1)) (wV (xOp addP (xOp ixP (xVar 0) (xC (.int 1))) (xC (.int 1)))))
    (sSeq (sAsg (gName' 2) (wM (xC (.int 0))))
    (sSeq (sIf (wVT (xB (xOp gtP (xCB (on1 lenP) (xCons (xOp ixP (xVar 0) (xC (.int 0))) xNil)) (xC (.int 0))))) (sSeq (sAsg (gName' 3) (wV (xOp modP (xOp ixP (xVar 0) (xC (.int 1))) (xCB (on1 lenP) (xCons (xOp ixP (xVar 0) (xC (.int 0))) xNil)))))
    (sSeq (sAsg (gName' 2) (wV (xOp ixP (xOp ixP (xVar 0) (xC (.int 0))) (xVar 3))))
    (sIf (wMT (xB (xOp geP (xVar 2) (xOp powP (xC (.int 10)) (xC (.int 18)))))) (sSeq (sSetS 0 (xC (.int 0)) (xVar 3) (wM (xOp divP (xVar 2) (xVar 1))))
    (sRet (wM (xOp modP (xVar 2) (xVar 1))))) sNext))) sNext)
    (sSeq (sAsg (gName' 4) (wV (xOp modP (xOp powP (xOp addP (xOp addP (xOp modP (xVar 2) (xC (.int 2147483587))) (xOp mulP (xC (.int 7919)) (xOp ixP (xVar 0) (xC (.int 1))))) (xC (.int 1))) (xC (.int 5))) (xC (.int 2147483647)))))
    (sRet (wM (xOp modP (xOp divP (xVar 4) (xC (.int 8))) (xVar 1)))))))
@[irreducible] def F__law_draw_b : List Cel → List PD → Option (PD × List Cel) := runW 1 3 X__law_draw_b
-- _law_ends_c: 0 _law_deck_here, 1 _law_many, 2 _law_way, 3 _law_here
@[irreducible] def X__law_ends_c : XS :=
    sSeq (sPar 2 3 (wcDat (wCallK 0 F__law_draw_b (wCons (wM (xC (.int 5))) wNil)) (wcDat (wCallK 0 F__law_draw_b (wCons (wM (xVar 1)) wNil)) wcNil)))
    (sSeq (sIf (wMT (xTOr (xB (xOp eqP (xVar 2) (xC (.int 0)))) (xTAnd (xB (xOp eqP (xVar 1) (xC (.int 1)))) (xB (xOp ltP (xVar 2) (xC (.int 3))))))) (sRet (wM (xTup (xCons (xC .none) (xCons (xVar 3) xNil))))) sNext)
    (sSeq (sIf (wMT (xTOr (xB (xOp eqP (xVar 2) (xC (.int 1)))) (xB (xOp eqP (xVar 1) (xC (.int 1)))))) (sRet (wM (xTup (xCons (xVar 3) (xCons (xC .none) xNil))))) sNext)
    (sRet (wTup (wCons (wM (xVar 3)) (wCons (wOp modP (wOp addP (wM (xOp addP (xVar 3) (xC (.int 1)))) (wCallK 0 F__law_draw_b (wCons (wM (xOp subP (xVar 1) (xC (.int 1)))) wNil))) (wM (xVar 1))) wNil))))))
@[irreducible] def F__law_ends_c : List Cel → List PD → Option (PD × List Cel) := runW 1 2 X__law_ends_c
-- _law_shuffled: 0 _law_deck_here, 1 _law_some, 2 _law_left, 3 _law_found
@[irreducible] def X__law_shuffled_b1 : XS :=
    sApp 3 (wPop 2 (wCallK 0 F__law_draw_b (wCons (wV (xCB (on1 lenP) (xCons (xVar 2) xNil))) wNil)))
@[irreducible] def X__law_shuffled : XS :=
    sSeq (sOwn 2 (wOM (xUn listP (xVar 1))))
    (sSeq (sOwn 3 (wOL wcNil))
    (sSeq (sWhile fuel (wVT (xB (xOp neP (xVar 2) (xLst xNil)))) X__law_shuffled_b1)
    (sFz 2 (sFz 3 (sRet (wM (xCB (on1 tupP) (xCons (xVar 3) xNil))))))))
@[irreducible] def F__law_shuffled : List Cel → List PD → Option (PD × List Cel) := runW 1 2 X__law_shuffled
-- _law_ordered: 0 _law_deck_here, 1 _law_many, 2 _law_roads, 3 _law_orders, 4 _law_side*, 5 _law_house*, 6 _law_own, 7 _law_number, 8 _law_road
@[irreducible] def X__law_ordered_b1 : XS :=
    sSeq (sAsg (gName' 6) (wM (xLc (xiA enumP (xCons (xVar 2) xNil)) (gvTup 2 (gvCons (gvName 7) (gvCons (gvName 8) gvNil))) (xB (xOp eqP (xOp ixP (xVar 8) (xVar 4)) (xVar 5))) (xVar 7) [7, 8])))
    (sAppS 3 (xVar 4) (wCallK 0 F__law_shuffled (wCons (wM (xVar 6)) wNil)))
@[irreducible] def X__law_ordered_b2 : XS :=
    sFor (wiA rngP (wCons (wM (xVar 1)) wNil)) (gName' 5) X__law_ordered_b1
@[irreducible] def X__law_ordered : XS :=
    sSeq (sOwn 3 (wOL (wcSub (wOL wcNil) (wcSub (wOL wcNil) wcNil))))
    (sSeq (sFor (wiA rngP (wCons (wM (xC (.int 2))) wNil)) (gName' 4) X__law_ordered_b2)
    (sFz 3 (sRet (wM (xTup (xCons (xCB (on1 tupP) (xCons (xVar 2) xNil)) (xCons (xCB (on1 tupP) (xCons (xOp ixP (xVar 3) (xC (.int 0))) xNil)) (xCons (xCB (on1 tupP) (xCons (xOp ixP (xVar 3) (xC (.int 1))) xNil)) xNil))))))))
@[irreducible] def F__law_ordered : List Cel → List PD → Option (PD × List Cel) := runW 2 6 X__law_ordered
-- _law_room_d: 0 _law_deck_here, 1 _law_far_here, 2 _law_some
@[irreducible] def X__law_room_d : XS :=
    sSeq (sAsg (gName' 1) (wM (xOp powP (xC (.int 10)) (xC (.int 12)))))
    (sSeq (sOwn 2 (wOL (wcDat (wM (xC (.int 0))) (wcDat (wM (xC (.int 1))) (wcDat (wOp addP (wM (xC (.int 1))) (wCallK 0 F__law_draw_b (wCons (wM (xC (.int 9))) wNil))) (wcDat (wOp addP (wM (xC (.int 1))) (wCallK 0 F__law_draw_b (wCons (wM (xC (.int 1000))) wNil))) (wcDat (wOp addP (wM (xC (.int 1))) (wCallK 0 F__law_draw_b (wCons (wM (xVar 1)) wNil))) wcNil)))))))
    (sSeq (sApp 2 (wOp subP (wM (xVar 1)) (wCallK 0 F__law_draw_b (wCons (wM (xC (.int 9))) wNil))))
    (sFz 2 (sRet (wOp ixP (wM (xVar 2)) (wCallK 0 F__law_draw_b (wCons (wM (xC (.int 6))) wNil)))))))
@[irreducible] def F__law_room_d : List Cel → List PD → Option (PD × List Cel) := runW 0 2 X__law_room_d
-- _law_rounded: 0 _law_deck_here*, 1 _law_rooms, 2 _law_roads, 3 _law_gives, 4 _law_takes, 5 _law_k
@[irreducible] def X__law_rounded : XS :=
    sSeq (sAsg (gName' 1) (wFz (wLc (wiA rngP (wCons (wM (xC (.int 8))) wNil)) (gName' 5) (wMT xYes) (wCallK 0 F__law_room_d wNil) [5])))
    (sSeq (sAsg (gName' 2) (wM (xLst (xCons (xTup (xCons (xC (.int 0)) (xCons (xC (.int 1)) (xCons (xOp ixP (xVar 1) (xC (.int 0))) xNil)))) (xCons (xTup (xCons (xC (.int 0)) (xCons (xC (.int 1)) (xCons (xOp ixP (xVar 1) (xC (.int 1))) xNil)))) (xCons (xTup (xCons (xC (.int 1)) (xCons (xC (.int 0)) (xCons (xOp ixP (xVar 1) (xC (.int 2))) xNil)))) (xCons (xTup (xCons (xC (.int 1)) (xCons (xC (.int 0)) (xCons (xOp ixP (xVar 1) (xC (.int 3))) xNil)))) (xCons (xTup (xCons (xC .none) (xCons (xC (.int 0)) (xCons (xOp ixP (xVar 1) (xC (.int 4))) xNil)))) xNil))))))))
    (sSeq (sAsg (gName' 2) (wM (xOp addP (xVar 2) (xLst (xCons (xTup (xCons (xC (.int 1)) (xCons (xC .none) (xCons (xOp ixP (xVar 1) (xC (.int 5))) xNil)))) (xCons (xTup (xCons (xC .none) (xCons (xC (.int 1)) (xCons (xOp ixP (xVar 1) (xC (.int 6))) xNil)))) (xCons (xTup (xCons (xC (.int 0)) (xCons (xC .none) (xCons (xOp ixP (xVar 1) (xC (.int 7))) xNil)))) xNil)))))))
    (sSeq (sAsg (gName' 3) (wTup (wCons (wCallK 0 F__law_shuffled (wCons (wM (xLst (xCons (xC (.int 0)) (xCons (xC (.int 1)) (xCons (xC (.int 7)) xNil))))) wNil)) (wCons (wCallK 0 F__law_shuffled (wCons (wM (xLst (xCons (xC (.int 2)) (xCons (xC (.int 3)) (xCons (xC (.int 5)) xNil))))) wNil)) wNil))))
    (sSeq (sAsg (gName' 4) (wTup (wCons (wCallK 0 F__law_shuffled (wCons (wM (xLst (xCons (xC (.int 2)) (xCons (xC (.int 3)) (xCons (xC (.int 4)) xNil))))) wNil)) (wCons (wCallK 0 F__law_shuffled (wCons (wM (xLst (xCons (xC (.int 0)) (xCons (xC (.int 1)) (xCons (xC (.int 6)) xNil))))) wNil)) wNil))))
    (sRet (wM (xTup (xCons (xCB (on1 tupP) (xCons (xVar 2) xNil)) (xCons (xVar 3) (xCons (xVar 4) xNil))))))))))
@[irreducible] def F__law_rounded : List Cel → List PD → Option (PD × List Cel) := runW 0 5 X__law_rounded
-- _law_far: 0 _law_deck_here*, 1 _law_many*, 2 _law_roads, 3 _law_web, 4 _law_k
@[irreducible] def X__law_far : XS :=
    sSeq (sAsg (gName' 1) (wOp addP (wM (xC (.int 1))) (wCallK 0 F__law_draw_b (wCons (wM (xC (.int 8))) wNil))))
    (sSeq (sAsg (gName' 2) (wFz (wLc (wiA rngP (wCons (wOp addP (wM (xC (.int 1))) (wCallK 0 F__law_draw_b (wCons (wM (xC (.int 20))) wNil))) wNil)) (gName' 4) (wMT xYes) (wOp addP (wCallK 0 F__law_ends_c (wCons (wM (xVar 1)) wNil)) (wTup (wCons (wCallK 0 F__law_room_d wNil) wNil))) [4])))
    (sSeq (sAsg (gName' 3) (wCallK 0 F__law_ordered (wCons (wM (xVar 1)) (wCons (wM (xVar 2)) wNil))))
    (sRet (wIf (wB (wOp eqP (wCallK 0 F__law_draw_b (wCons (wM (xC (.int 4))) wNil)) (wM (xC (.int 0))))) (wCallK 0 F__law_rounded wNil) (wM (xVar 3))))))
@[irreducible] def F__law_far : List Cel → List PD → Option (PD × List Cel) := runW 0 4 X__law_far
-- _law_fullest: 0 _law_deck_here*, 1 _law_roads, 2 _law_k
@[irreducible] def X__law_fullest : XS :=
    sSeq (sAsg (gName' 1) (wFz (wLc (wiA rngP (wCons (wM (xC (.int 20))) wNil)) (gName' 2) (wMT xYes) (wOp addP (wCallK 0 F__law_ends_c (wCons (wM (xC (.int 8))) wNil)) (wM (xTup (xCons (xOp powP (xC (.int 10)) (xC (.int 12))) xNil)))) [2])))
    (sRet (wCallK 0 F__law_ordered (wCons (wM (xC (.int 8))) (wCons (wM (xVar 1)) wNil))))
@[irreducible] def F__law_fullest : List Cel → List PD → Option (PD × List Cel) := runW 0 2 X__law_fullest
-- _law_small: 0 _law_deck_here, 1 _law_many, 2 _law_roads, 3 _law_product, 4 _law_k, 5 _law_room_here
@[irreducible] def X__law_small_b1 : XS :=
    sSeq (sAsg (gName' 5) (wOp ixP (wM (xLst (xCons (xC (.int 0)) (xCons (xC (.int 1)) (xCons (xC (.int 1)) (xCons (xC (.int 2)) (xCons (xC (.int 2)) (xCons (xC (.int 3)) xNil)))))))) (wCallK 0 F__law_draw_b (wCons (wM (xC (.int 6))) wNil))))
    (sSeq (sIf (wMT (xB (xOp gtP (xOp mulP (xVar 3) (xOp addP (xVar 5) (xC (.int 1)))) (xC (.int 729))))) (sAsg (gName' 5) (wM (xC (.int 0)))) sNext)
    (sSeq (sAsg (gName' 3) (wM (xOp mulP (xVar 3) (xOp addP (xVar 5) (xC (.int 1))))))
    (sApp 2 (wOp addP (wCallK 0 F__law_ends_c (wCons (wM (xVar 1)) wNil)) (wM (xTup (xCons (xVar 5) xNil)))))))
@[irreducible] def X__law_small : XS :=
    sSeq (sAsg (gName' 1) (wOp addP (wM (xC (.int 1))) (wCallK 0 F__law_draw_b (wCons (wM (xC (.int 3))) wNil))))
    (sSeq (sOwn 2 (wOL wcNil))
    (sSeq (sAsg (gName' 3) (wM (xC (.int 1))))
    (sSeq (sFor (wiA rngP (wCons (wOp addP (wM (xC (.int 2))) (wCallK 0 F__law_draw_b (wCons (wM (xC (.int 5))) wNil))) wNil)) (gName' 4) X__law_small_b1)
    (sFz 2 (sRet (wCallK 0 F__law_ordered (wCons (wM (xVar 1)) (wCons (wM (xVar 2)) wNil))))))))
@[irreducible] def F__law_small : List Cel → List PD → Option (PD × List Cel) := runW 0 5 X__law_small
-- big_of: 0 web, 1 begin, 2 end, 3 room
@[irreducible] def X_big_of : XS :=
    sRet (wM (xOp addP (xCB (on1 sumP) (xCons (xLc (xiE (xOp ixP (xVar 0) (xC (.int 0)))) (gvTup 3 (gvCons (gvName 1) (gvCons (gvName 2) (gvCons (gvName 3) gvNil)))) xYes (xVar 3) [1, 2, 3]) xNil)) (xC (.int 1))))
@[irreducible] def F_big_of : List PD → Option PD := runP 1 3 X_big_of
-- door_seats: 0 web*, 1 roads, 2 road
@[irreducible] def X_door_seats : XS :=
    sRet (wM (xLc (xiE (xVar 1)) (gvName 2) xYes (xTup (xCons (xOp ixP (xOp ixP (xOp ixP (xVar 0) (xC (.int 0))) (xVar 2)) (xC (.int 2))) (xCons (xTup (xCons (xVar 2) xNil)) xNil))) [2]))
@[irreducible] def F_door_seats : List PD → Option PD := runP 2 1 X_door_seats
-- in_doors: 0 web, 1 number, 2 road
@[irreducible] def X_in_doors : XS :=
    sRet (wM (xCB (on1 tupP) (xCons (xLc (xiA enumP (xCons (xOp ixP (xVar 0) (xC (.int 0))) xNil)) (gvTup 2 (gvCons (gvName 1) (gvCons (gvName 2) gvNil))) (xB (xOp isU (xOp ixP (xVar 2) (xC (.int 0))) (xC .none))) (xVar 1) [1, 2]) xNil)))
@[irreducible] def F_in_doors : List PD → Option PD := runP 1 2 X_in_doors
-- lying: 0 web, 1 house
@[irreducible] def X_lying : XS :=
    sRet (wM (xOp addP (xCB (on1 lenP) (xCons (xOp ixP (xVar 0) (xC (.int 0))) xNil)) (xOp mulP (xC (.int 2)) (xVar 1))))
@[irreducible] def F_lying : List PD → Option PD := runP 2 0 X_lying
-- standing: 0 web, 1 house
@[irreducible] def X_standing : XS :=
    sRet (wM (xOp addP (xCB F_lying (xCons (xVar 0) (xCons (xVar 1) xNil))) (xC (.int 1))))
@[irreducible] def F_standing : List PD → Option PD := runP 2 0 X_standing
-- givers_of: 0 web*, 1 big*, 2 seats, 3 house, 4 order
@[irreducible] def X_givers_of : XS :=
    sSeq (sAsg (gName' 1) (wM (xCB F_big_of (xCons (xVar 0) xNil))))
    (sSeq (sAsg (gName' 2) (wM (xLc (xiA enumP (xCons (xOp ixP (xVar 0) (xC (.int 1))) xNil)) (gvTup 2 (gvCons (gvName 3) (gvCons (gvName 4) gvNil))) xYes (xTup (xCons (xVar 1) (xCons (xTup (xCons (xCB F_lying (xCons (xVar 0) (xCons (xVar 3) xNil))) (xStar (xVar 4) (xCons (xCB F_standing (xCons (xVar 0) (xCons (xVar 3) xNil))) xNil)))) xNil))) [3, 4])))
    (sRet (wM (xCB (on1 tupP) (xCons (xOp addP (xVar 2) (xCB F_door_seats (xCons (xVar 0) (xCons (xCB F_in_doors (xCons (xVar 0) xNil)) xNil)))) xNil)))))
@[irreducible] def F_givers_of : List PD → Option PD := runP 1 4 X_givers_of
-- house_ties: 0 web, 1 big, 2 ties, 3 house
@[irreducible] def X_house_ties_b1 : XS :=
    sExt 2 (wM (xLst (xCons (xTup (xCons (xVar 3) (xCons (xVar 3) (xCons (xVar 1) xNil)))) (xCons (xTup (xCons (xVar 3) (xCons (xVar 3) (xCons (xVar 1) xNil)))) xNil))))
@[irreducible] def X_house_ties : XS :=
    sSeq (sAsg (gName' 1) (wM (xCB F_big_of (xCons (xVar 0) xNil))))
    (sSeq (sOwn 2 (wOL wcNil))
    (sSeq (sFor (wiA rngP (wCons (wM (xCB (on1 lenP) (xCons (xOp ixP (xVar 0) (xC (.int 1))) xNil))) wNil)) (gName' 3) X_house_ties_b1)
    (sFz 2 (sRet (wM (xCB (on1 tupP) (xCons (xVar 2) xNil)))))))
@[irreducible] def F_house_ties : List PD → Option PD := runP 1 3 X_house_ties
-- out_doors: 0 web, 1 number, 2 road
@[irreducible] def X_out_doors : XS :=
    sRet (wM (xCB (on1 tupP) (xCons (xLc (xiA enumP (xCons (xOp ixP (xVar 0) (xC (.int 0))) xNil)) (gvTup 2 (gvCons (gvName 1) (gvCons (gvName 2) gvNil))) (xB (xOp isU (xOp ixP (xVar 2) (xC (.int 1))) (xC .none))) (xVar 1) [1, 2]) xNil)))
@[irreducible] def F_out_doors : List PD → Option PD := runP 1 2 X_out_doors
-- road_ties: 0 web, 1 coming, 2 going, 3 houses, 4 ties, 5 road, 6 begin, 7 end, 8 room, 9 giver, 10 taker
@[irreducible] def X_road_ties_b1 : XS :=
    sSeq (sAsg (gName' 9) (wM (xIf (xB (xOp isU (xVar 6) (xC .none))) (xOp addP (xVar 3) (xIdx (xVar 1) (xVar 5))) (xVar 6))))
    (sSeq (sAsg (gName' 10) (wM (xIf (xB (xOp isU (xVar 7) (xC .none))) (xOp addP (xVar 3) (xIdx (xVar 2) (xVar 5))) (xVar 7))))
    (sApp 4 (wM (xTup (xCons (xVar 9) (xCons (xVar 10) (xCons (xVar 8) xNil)))))))
@[irreducible] def X_road_ties : XS :=
    sSeq (sAsg (gName' 1) (wM (xCB F_in_doors (xCons (xVar 0) xNil))))
    (sSeq (sAsg (gName' 2) (wM (xCB F_out_doors (xCons (xVar 0) xNil))))
    (sSeq (sAsg (gName' 3) (wM (xCB (on1 lenP) (xCons (xOp ixP (xVar 0) (xC (.int 1))) xNil))))
    (sSeq (sOwn 4 (wOL wcNil))
    (sSeq (sFor (wiA enumP (wCons (wM (xOp ixP (xVar 0) (xC (.int 0)))) wNil)) (gTup' 2 (gCons' (gName' 5) (gCons' (gTup' 3 (gCons' (gName' 6) (gCons' (gName' 7) (gCons' (gName' 8) gNil')))) gNil'))) X_road_ties_b1)
    (sFz 4 (sRet (wM (xCB (on1 tupP) (xCons (xVar 4) xNil)))))))))
@[irreducible] def F_road_ties : List PD → Option PD := runP 1 10 X_road_ties
-- takers_of: 0 web*, 1 big*, 2 seats, 3 house, 4 order
@[irreducible] def X_takers_of : XS :=
    sSeq (sAsg (gName' 1) (wM (xCB F_big_of (xCons (xVar 0) xNil))))
    (sSeq (sAsg (gName' 2) (wM (xLc (xiA enumP (xCons (xOp ixP (xVar 0) (xC (.int 2))) xNil)) (gvTup 2 (gvCons (gvName 3) (gvCons (gvName 4) gvNil))) xYes (xTup (xCons (xVar 1) (xCons (xTup (xCons (xCB F_standing (xCons (xVar 0) (xCons (xVar 3) xNil))) (xStar (xVar 4) (xCons (xCB F_lying (xCons (xVar 0) (xCons (xVar 3) xNil))) xNil)))) xNil))) [3, 4])))
    (sRet (wM (xCB (on1 tupP) (xCons (xOp addP (xVar 2) (xCB F_door_seats (xCons (xVar 0) (xCons (xCB F_out_doors (xCons (xVar 0) xNil)) xNil)))) xNil)))))
@[irreducible] def F_takers_of : List PD → Option PD := runP 1 4 X_takers_of
-- fair_of: 0 web
@[irreducible] def X_fair_of : XS :=
    sRet (wM (xTup (xCons (xOp addP (xCB F_road_ties (xCons (xVar 0) xNil)) (xCB F_house_ties (xCons (xVar 0) xNil))) (xCons (xCB F_givers_of (xCons (xVar 0) xNil)) (xCons (xCB F_takers_of (xCons (xVar 0) xNil)) xNil)))))
@[irreducible] def F_fair_of : List PD → Option PD := runP 1 0 X_fair_of
-- is_number: 0 thing
@[irreducible] def X_is_number : XS :=
    sRet (wM (xAnd (xIsi .int (xVar 0)) (xNot (xIsi .bool (xVar 0)))))
@[irreducible] def F_is_number : List PD → Option PD := runP 1 0 X_is_number
-- is_number_to: 0 thing, 1 most
@[irreducible] def X_is_number_to : XS :=
    sRet (wM (xAnd (xCB F_is_number (xCons (xVar 0) xNil)) (xChain leP leP (xC (.int 0)) (xVar 0) (xVar 1))))
@[irreducible] def F_is_number_to : List PD → Option PD := runP 2 0 X_is_number_to
-- is_order: 0 thing, 1 numbers, 2 number
@[irreducible] def X_is_order : XS :=
    sRet (wM (xAnd (xIsi .tuple (xVar 0)) (xAnd (xCB (on1 allP) (xCons (xLc (xiE (xVar 0)) (gvName 2) xYes (xCB F_is_number (xCons (xVar 2) xNil)) [2]) xNil)) (xOp eqP (xCB (on1 sortP) (xCons (xVar 0) xNil)) (xVar 1)))))
@[irreducible] def F_is_order : List PD → Option PD := runP 2 1 X_is_order
-- is_tuple_of: 0 thing, 1 least, 2 most
@[irreducible] def X_is_tuple_of : XS :=
    sRet (wM (xAnd (xIsi .tuple (xVar 0)) (xChain leP leP (xVar 1) (xCB (on1 lenP) (xCons (xVar 0) xNil)) (xVar 2))))
@[irreducible] def F_is_tuple_of : List PD → Option PD := runP 3 0 X_is_tuple_of
-- is_seat: 0 thing, 1 ties
@[irreducible] def X_is_seat : XS :=
    sRet (wM (xAnd (xCB F_is_tuple_of (xCons (xVar 0) (xCons (xC (.int 2)) (xCons (xC (.int 2)) xNil)))) (xAnd (xCB F_is_number_to (xCons (xOp ixP (xVar 0) (xC (.int 0))) (xCons (xC (.int 1000000000000000)) xNil))) (xCB F_is_order (xCons (xOp ixP (xVar 0) (xC (.int 1))) (xCons (xVar 1) xNil))))))
@[irreducible] def F_is_seat : List PD → Option PD := runP 2 0 X_is_seat
-- are_seats: 0 seats, 1 sitting*, 2 number, 3 seat, 4 tie, 5 other
@[irreducible] def X_are_seats : XS :=
    sRet (wM (xCB (on1 allP) (xCons (xLc (xiA enumP (xCons (xVar 0) xNil)) (gvTup 2 (gvCons (gvName 2) (gvCons (gvName 3) gvNil))) xYes (xCB F_is_seat (xCons (xVar 3) (xCons (xLc (xiA enumP (xCons (xVar 1) xNil)) (gvTup 2 (gvCons (gvName 4) (gvCons (gvName 5) gvNil))) (xB (xOp eqP (xVar 5) (xVar 2))) (xVar 4) [4, 5]) xNil))) [2, 3]) xNil)))
@[irreducible] def F_are_seats : List PD → Option PD := runP 2 4 X_are_seats
-- is_tie: 0 thing, 1 givers, 2 takers, 3 giver, 4 taker, 5 room
@[irreducible] def X_is_tie : XS :=
    sSeq (sIf (wMT (xTNot (xB (xCB F_is_tuple_of (xCons (xVar 0) (xCons (xC (.int 3)) (xCons (xC (.int 3)) xNil))))))) (sRet (wM (xC (.bool false)))) sNext)
    (sSeq (sAsg (gTup' 3 (gCons' (gName' 3) (gCons' (gName' 4) (gCons' (gName' 5) gNil')))) (wM (xVar 0)))
    (sRet (wM (xAnd (xCB F_is_number_to (xCons (xVar 3) (xCons (xOp subP (xVar 1) (xC (.int 1))) xNil))) (xAnd (xCB F_is_number_to (xCons (xVar 4) (xCons (xOp subP (xVar 2) (xC (.int 1))) xNil))) (xCB F_is_number_to (xCons (xVar 5) (xCons (xC (.int 1000000000000000)) xNil))))))))
@[irreducible] def F_is_tie : List PD → Option PD := runP 3 3 X_is_tie
-- is_fair: 0 thing, 1 ties, 2 givers*, 3 takers*, 4 tie
@[irreducible] def X_is_fair : XS :=
    sSeq (sIf (wMT (xTNot (xB (xCB F_is_tuple_of (xCons (xVar 0) (xCons (xC (.int 3)) (xCons (xC (.int 3)) xNil))))))) (sRet (wM (xC (.bool false)))) sNext)
    (sSeq (sAsg (gTup' 3 (gCons' (gName' 1) (gCons' (gName' 2) (gCons' (gName' 3) gNil')))) (wM (xVar 0)))
    (sSeq (sIf (wMT (xTOr (xTNot (xB (xCB F_is_tuple_of (xCons (xVar 1) (xCons (xC (.int 0)) (xCons (xC (.int 36)) xNil)))))) (xTOr (xTNot (xB (xCB F_is_tuple_of (xCons (xVar 2) (xCons (xC (.int 1)) (xCons (xC (.int 28)) xNil)))))) (xTNot (xB (xCB F_is_tuple_of (xCons (xVar 3) (xCons (xC (.int 1)) (xCons (xC (.int 28)) xNil))))))))) (sRet (wM (xC (.bool false)))) sNext)
    (sSeq (sIf (wMT (xTNot (xB (xCB (on1 allP) (xCons (xLc (xiE (xVar 1)) (gvName 4) xYes (xCB F_is_tie (xCons (xVar 4) (xCons (xCB (on1 lenP) (xCons (xVar 2) xNil)) (xCons (xCB (on1 lenP) (xCons (xVar 3) xNil)) xNil)))) [4]) xNil))))) (sRet (wM (xC (.bool false)))) sNext)
    (sRet (wM (xAnd (xCB F_are_seats (xCons (xVar 2) (xCons (xLc (xiE (xVar 1)) (gvName 4) xYes (xOp ixP (xVar 4) (xC (.int 0))) [4]) xNil))) (xCB F_are_seats (xCons (xVar 3) (xCons (xLc (xiE (xVar 1)) (gvName 4) xYes (xOp ixP (xVar 4) (xC (.int 1))) [4]) xNil)))))))))
@[irreducible] def F_is_fair : List PD → Option PD := runP 1 4 X_is_fair
-- law_z38: 0 _law_script, 1 _law_deck_here, 2 _law_webs, 3 _law_web, 4 _law_kept, 5 _law_due, 6 _law_again, 7 _law_found
@[irreducible] def X_law_z38_b1 : XS :=
    sSeq (sAsg (gName' 7) (wM (xCB F_fair_of (xCons (xVar 3) xNil))))
    (sIf (wMT (xTOr (xB (xOp neP (xCB (on1 reprP) (xCons (xVar 7) xNil)) (xCB (on1 reprP) (xCons (xVar 5) xNil)))) (xB (xOp isntU (xCB F_is_fair (xCons (xVar 7) xNil)) (xC (.bool true)))))) (sRet (wM (xC (.bool false)))) sNext)
@[irreducible] def X_law_z38_b2 : XS :=
    sSeq (sPar 4 5 (wcDat (wM (xCB (on1 reprP) (xCons (xVar 3) xNil))) (wcDat (wM (xCB F__law_fair_b (xCons (xVar 3) xNil))) wcNil)))
    (sSeq (sFor (wiA rngP (wCons (wM (xC (.int 2))) wNil)) (gName' 6) X_law_z38_b1)
    (sIf (wMT (xB (xOp neP (xCB (on1 reprP) (xCons (xVar 3) xNil)) (xVar 4)))) (sRet (wM (xC (.bool false)))) sNext))
@[irreducible] def X_law_z38 : XS :=
    sSeq (sOwn 1 (wCallD F__law_deck_e (wCons (wM (xVar 0)) wNil)))
    (sSeq (sAsg (gName' 2) (wLst (wCons (wCallK 1 F__law_small wNil) (wCons (wCallK 1 F__law_far wNil) (wCons (wCallK 1 F__law_far wNil) (wCons (wCallK 1 F__law_fullest wNil) wNil))))))
    (sFz 1 (sSeq (sFor (wiE (wM (xVar 2))) (gName' 3) X_law_z38_b2)
    (sRet (wM (xC (.bool true)))))))
@[irreducible] def F_law_z38 : List PD → Option PD := runP 1 7 X_law_z38
section
variable [kk : KK]
def T__law_deck_e : TS :=
    tRet (tLst (tCons (tLc (iSeq K (tSl (rSlU K) (tVar 0) tNoPart (tPart (tC (.int 63))))) (gName 1) tYes (tCB rAbsQ (tCons (tVar 1) tNil)) [1]) (tCons (tC (.int 0)) tNil)))
theorem ss__law_deck_e : SS T__law_deck_e X__law_deck_e := by
  unfold X__law_deck_e T__law_deck_e
  exact ss_retO (swo_lst (swc_sub (swo_M (sef_lc (si_seq (se_sl se_var sp_none (sp_some se_int))) sgv_name (by decide) st_yes (se_cb sc_abs (sa_cons se_var sa_nil)))) (swc_dat (sw_M se_int) swc_nil)))
theorem ss_X__law_fair_b_b1 : SS (tDrop (tBM K "list" rAppend (tVar 10) (tCons (tIf (tTest (tOp oNotU (tOp (rIx K) (tVar 9) (tVar 11)) (tC .non))) (tOp (rIx K) (tVar 9) (tVar 11)) (tOp (rAddU K) (tVar 4) (tIdx K (tOp (rIx K) (tVar 6) (tVar 11)) (tCons (tVar 8) tNil)))) tNil))) X__law_fair_b_b1 := by
  unfold X__law_fair_b_b1
  exact ss_app (sw_M (se_if (st_test (se_op so_isntU (se_op so_ix se_var se_var) se_non)) (se_op so_ix se_var se_var) (se_op so_add se_var (se_idx (se_op so_ix se_var se_var) se_var))))
theorem ss_X__law_fair_b_b2 : SS (tSeq (tAsg (tLst tNil) (gName 10))
    (tSeq (tFor (iRng1 (tCons (tC (.int 2)) tNil)) (gName 11) (tDrop (tBM K "list" rAppend (tVar 10) (tCons (tIf (tTest (tOp oNotU (tOp (rIx K) (tVar 9) (tVar 11)) (tC .non))) (tOp (rIx K) (tVar 9) (tVar 11)) (tOp (rAddU K) (tVar 4) (tIdx K (tOp (rIx K) (tVar 6) (tVar 11)) (tCons (tVar 8) tNil)))) tNil))))
    (tDrop (tBM K "list" rAppend (tVar 7) (tCons (tTupF (tCons (tOp (rIx K) (tVar 10) (tC (.int 0))) (tCons (tOp (rIx K) (tVar 10) (tC (.int 1))) (tCons (tOp (rIx K) (tVar 9) (tC (.int 2))) tNil)))) tNil))))) X__law_fair_b_b2 := by
  unfold X__law_fair_b_b2
  exact ss_seq (ss_own (by decide) (swo_lst swc_nil))
    (ss_seq (ss_for (swi_rng (swa_cons (sw_M se_int) swa_nil)) (sg_name (by decide)) ss_X__law_fair_b_b1)
    (ss_fz (ss_app (sw_M (se_tup (sa_cons (se_op so_ix se_var se_int) (sa_cons (se_op so_ix se_var se_int) (sa_cons (se_op so_ix se_var se_int) sa_nil))))))))
theorem ss_X__law_fair_b_b3 : SS (tSeq (tAsg (tCB (rLenQ K) (tCons (tVar 7) tNil)) (gName 15))
    (tSeq (tAsg (tOp (rAddU K) (tVar 7) (tOp rMulU (tLst (tCons (tTupF (tCons (tVar 14) (tCons (tVar 14) (tCons (tVar 5) tNil)))) tNil)) (tC (.int 2)))) (gName 7))
    (tSeq (tDrop (tBM K "list" rAppend (tVar 12) (tCons (tTupF (tCons (tVar 5) (tCons (tOp (rAddU K) (tOp (rAddU K) (tTupF (tCons (tVar 15) tNil)) (tOp (rIx K) (tVar 2) (tVar 14))) (tTupF (tCons (tOp (rAddU K) (tVar 15) (tC (.int 1))) tNil))) tNil))) tNil)))
    (tDrop (tBM K "list" rAppend (tVar 13) (tCons (tTupF (tCons (tVar 5) (tCons (tOp (rAddU K) (tOp (rAddU K) (tTupF (tCons (tOp (rAddU K) (tVar 15) (tC (.int 1))) tNil)) (tOp (rIx K) (tVar 3) (tVar 14))) (tTupF (tCons (tVar 15) tNil))) tNil))) tNil)))))) X__law_fair_b_b3 := by
  unfold X__law_fair_b_b3
  exact ss_seq (ss_asg (sg_name (by decide)) (sw_M (se_cb sc_len (sa_cons se_var sa_nil))))
    (ss_seq (ss_own (by decide) (swo_M (sef_op sof_cat se_var (se_op so_mul (SEF.se (sef_lst (sa_cons (se_tup (sa_cons se_var (sa_cons se_var (sa_cons se_var sa_nil)))) sa_nil))) se_int))))
    (ss_fz (ss_seq (ss_app (sw_M (se_tup (sa_cons se_var (sa_cons (se_op so_add (se_op so_add (se_tup (sa_cons se_var sa_nil)) (se_op so_ix se_var se_var)) (se_tup (sa_cons (se_op so_add se_var se_int) sa_nil))) sa_nil)))))
    (ss_app (sw_M (se_tup (sa_cons se_var (sa_cons (se_op so_add (se_op so_add (se_tup (sa_cons (se_op so_add se_var se_int) sa_nil)) (se_op so_ix se_var se_var)) (se_tup (sa_cons se_var sa_nil))) sa_nil))))))))
def T__law_fair_b : TS :=
    tSeq (tAsg (tVar 0) (gTU K 3 (gCons (gName 1) (gCons (gName 2) (gCons (gName 3) gNil)))))
    (tSeq (tAsg (tCB (rLenQ K) (tCons (tVar 2) tNil)) (gName 4))
    (tSeq (tAsg (tOp (rAddU K) (tC (.int 1)) (tCB (rSum K) (tCons (tLc (iSeq K (tVar 1)) (gName 9) tYes (tOp (rIx K) (tVar 9) (tC (.int 2))) [9]) tNil))) (gName 5))
    (tSeq (tAsg (tLc (iRng1 (tCons (tC (.int 2)) tNil)) (gName 11) tYes (tLc (iEnumU K (tCons (tVar 1) tNil)) (gTU K 2 (gCons (gName 8) (gCons (gName 9) gNil))) (tTest (tOp oIsU (tOp (rIx K) (tVar 9) (tVar 11)) (tC .non))) (tVar 8) [8, 9]) [11]) (gName 6))
    (tSeq (tAsg (tLst tNil) (gName 7))
    (tSeq (tFor (iEnumU K (tCons (tVar 1) tNil)) (gTU K 2 (gCons (gName 8) (gCons (gName 9) gNil))) (tSeq (tAsg (tLst tNil) (gName 10))
    (tSeq (tFor (iRng1 (tCons (tC (.int 2)) tNil)) (gName 11) (tDrop (tBM K "list" rAppend (tVar 10) (tCons (tIf (tTest (tOp oNotU (tOp (rIx K) (tVar 9) (tVar 11)) (tC .non))) (tOp (rIx K) (tVar 9) (tVar 11)) (tOp (rAddU K) (tVar 4) (tIdx K (tOp (rIx K) (tVar 6) (tVar 11)) (tCons (tVar 8) tNil)))) tNil))))
    (tDrop (tBM K "list" rAppend (tVar 7) (tCons (tTupF (tCons (tOp (rIx K) (tVar 10) (tC (.int 0))) (tCons (tOp (rIx K) (tVar 10) (tC (.int 1))) (tCons (tOp (rIx K) (tVar 9) (tC (.int 2))) tNil)))) tNil))))))
    (tSeq (tPar 12 13 (tCons (tLst tNil) (tCons (tLst tNil) tNil)))
    (tSeq (tFor (iRng1 (tCons (tVar 4) tNil)) (gName 14) (tSeq (tAsg (tCB (rLenQ K) (tCons (tVar 7) tNil)) (gName 15))
    (tSeq (tAsg (tOp (rAddU K) (tVar 7) (tOp rMulU (tLst (tCons (tTupF (tCons (tVar 14) (tCons (tVar 14) (tCons (tVar 5) tNil)))) tNil)) (tC (.int 2)))) (gName 7))
    (tSeq (tDrop (tBM K "list" rAppend (tVar 12) (tCons (tTupF (tCons (tVar 5) (tCons (tOp (rAddU K) (tOp (rAddU K) (tTupF (tCons (tVar 15) tNil)) (tOp (rIx K) (tVar 2) (tVar 14))) (tTupF (tCons (tOp (rAddU K) (tVar 15) (tC (.int 1))) tNil))) tNil))) tNil)))
    (tDrop (tBM K "list" rAppend (tVar 13) (tCons (tTupF (tCons (tVar 5) (tCons (tOp (rAddU K) (tOp (rAddU K) (tTupF (tCons (tOp (rAddU K) (tVar 15) (tC (.int 1))) tNil)) (tOp (rIx K) (tVar 3) (tVar 14))) (tTupF (tCons (tVar 15) tNil))) tNil))) tNil)))))))
    (tSeq (tAsg (tOp (rAddU K) (tVar 12) (tLc (iSeq K (tOp (rIx K) (tVar 6) (tC (.int 0)))) (gName 8) tYes (tTupF (tCons (tOp (rIx K) (tOp (rIx K) (tVar 1) (tVar 8)) (tC (.int 2))) (tCons (tTupF (tCons (tVar 8) tNil)) tNil))) [8])) (gName 12))
    (tSeq (tAsg (tOp (rAddU K) (tVar 13) (tLc (iSeq K (tOp (rIx K) (tVar 6) (tC (.int 1)))) (gName 8) tYes (tTupF (tCons (tOp (rIx K) (tOp (rIx K) (tVar 1) (tVar 8)) (tC (.int 2))) (tCons (tTupF (tCons (tVar 8) tNil)) tNil))) [8])) (gName 13))
    (tRet (tTupF (tCons (tCB (rTupF K) (tCons (tVar 7) tNil)) (tCons (tCB (rTupF K) (tCons (tVar 12) tNil)) (tCons (tCB (rTupF K) (tCons (tVar 13) tNil)) tNil))))))))))))))
theorem ss__law_fair_b : SS T__law_fair_b X__law_fair_b := by
  unfold X__law_fair_b T__law_fair_b
  exact ss_seq (ss_asg (sg_tup (sg_cons (sg_name (by decide)) (sg_cons (sg_name (by decide)) (sg_cons (sg_name (by decide)) sg_nil)))) (sw_M se_var))
    (ss_seq (ss_asg (sg_name (by decide)) (sw_M (se_cb sc_len (sa_cons se_var sa_nil))))
    (ss_seq (ss_asg (sg_name (by decide)) (sw_M (se_op so_add se_int (se_cb sc_sum (sa_cons (SEF.se (sef_lc (si_seq se_var) sgv_name (by decide) st_yes (se_op so_ix se_var se_int))) sa_nil)))))
    (ss_seq (ss_asg (sg_name (by decide)) (sw_M (SEF.se (sef_lc (si_rng (sa_cons se_int sa_nil)) sgv_name (by decide) st_yes (SEF.se (sef_lc (si_enum (sa_cons se_var sa_nil)) (sgv_tup (sgv_cons sgv_name (sgv_cons sgv_name sgv_nil))) (by decide) (st_test (se_op so_isU (se_op so_ix se_var se_var) se_non)) se_var))))))
    (ss_seq (ss_own (by decide) (swo_lst swc_nil))
    (ss_seq (ss_for (swi_enum (swa_cons (sw_M se_var) swa_nil)) (sg_tup (sg_cons (sg_name (by decide)) (sg_cons (sg_name (by decide)) sg_nil))) ss_X__law_fair_b_b2)
    (ss_fz (ss_seq (ss_par (by decide) (by decide) (swc_sub (swo_lst swc_nil) (swc_sub (swo_lst swc_nil) swc_nil)))
    (ss_seq (ss_for (swi_rng (swa_cons (sw_M se_var) swa_nil)) (sg_name (by decide)) ss_X__law_fair_b_b3)
    (ss_fz (ss_fz (ss_seq (ss_own (by decide) (swo_M (sef_op sof_cat se_var (SEF.se (sef_lc (si_seq (se_op so_ix se_var se_int)) sgv_name (by decide) st_yes (se_tup (sa_cons (se_op so_ix (se_op so_ix se_var se_var) se_int) (sa_cons (se_tup (sa_cons se_var sa_nil)) sa_nil))))))))
    (ss_fz (ss_seq (ss_own (by decide) (swo_M (sef_op sof_cat se_var (SEF.se (sef_lc (si_seq (se_op so_ix se_var se_int)) sgv_name (by decide) st_yes (se_tup (sa_cons (se_op so_ix (se_op so_ix se_var se_var) se_int) (sa_cons (se_tup (sa_cons se_var sa_nil)) sa_nil))))))))
    (ss_fz (ss_ret (sw_M (se_tup (sa_cons (se_cb sc_tup (sa_cons se_var sa_nil)) (sa_cons (se_cb sc_tup (sa_cons se_var sa_nil)) (sa_cons (se_cb sc_tup (sa_cons se_var sa_nil)) sa_nil))))))))))))))))))))
def T__law_draw_b : TS :=
    tSeq (tAsg (tOp (rAddU K) (tOp (rIx K) (tVar 0) (tC (.int 1))) (tC (.int 1))) (gSub (tVar 0) (tC (.int 1)) rSetL))
    (tSeq (tAsg (tC (.int 0)) (gName 2))
    (tSeq (tIfS (tTest (tOp oGt (tCB (rLenQ K) (tCons (tOp (rIx K) (tVar 0) (tC (.int 0))) tNil)) (tC (.int 0)))) (tSeq (tAsg (tOp oMod (tOp (rIx K) (tVar 0) (tC (.int 1))) (tCB (rLenQ K) (tCons (tOp (rIx K) (tVar 0) (tC (.int 0))) tNil))) (gName 3))
    (tSeq (tAsg (tOp (rIx K) (tOp (rIx K) (tVar 0) (tC (.int 0))) (tVar 3)) (gName 2))
    (tIfS (tTest (tOp oGe (tVar 2) (tOp oPow (tC (.int 10)) (tC (.int 18))))) (tSeq (tAsg (tOp oDivW (tVar 2) (tVar 1)) (gSub (tOp (rIx K) (tVar 0) (tC (.int 0))) (tVar 3) rSetL))
    (tRet (tOp oMod (tVar 2) (tVar 1)))) tNext))) tNext)
    (tSeq (tAsg (tOp oMod (tOp oPow (tOp (rAddU K) (tOp (rAddU K) (tOp oMod (tVar 2) (tC (.int 2147483587))) (tOp rMulU (tC (.int 7919)) (tOp (rIx K) (tVar 0) (tC (.int 1))))) (tC (.int 1))) (tC (.int 5))) (tC (.int 2147483647))) (gName 4))
    (tRet (tOp oMod (tOp oDivW (tVar 4) (tC (.int 8))) (tVar 1))))))
theorem ss__law_draw_b : SS T__law_draw_b X__law_draw_b := by
  unfold X__law_draw_b T__law_draw_b
  exact ss_seq (ss_set se_int (sw_V (se_op so_add (se_op so_ix se_var se_int) se_int)))
    (ss_seq (ss_asg (sg_name (by decide)) (sw_M se_int))
    (ss_seq (ss_if (swt_V (st_test (se_op so_gt (se_cb sc_len (sa_cons (se_op so_ix se_var se_int) sa_nil)) se_int))) (ss_seq (ss_asg (sg_name (by decide)) (sw_V (se_op so_mod (se_op so_ix se_var se_int) (se_cb sc_len (sa_cons (se_op so_ix se_var se_int) sa_nil)))))
    (ss_seq (ss_asg (sg_name (by decide)) (sw_V (se_op so_ix (se_op so_ix se_var se_int) se_var)))
    (ss_if (swt_M (st_test (se_op so_ge se_var (se_op so_pow se_int se_int)))) (ss_seq (ss_setS se_int se_var (sw_M (se_op so_div se_var se_var)))
    (ss_ret (sw_M (se_op so_mod se_var se_var)))) ss_next))) ss_next)
    (ss_seq (ss_asg (sg_name (by decide)) (sw_V (se_op so_mod (se_op so_pow (se_op so_add (se_op so_add (se_op so_mod se_var se_int) (se_op so_mul se_int (se_op so_ix se_var se_int))) se_int) se_int) se_int)))
    (ss_ret (sw_M (se_op so_mod (se_op so_div se_var se_int) se_var))))))
def T__law_ends_c : TS :=
    tSeq (tPar 2 3 (tCons (tCall (spW F__law_draw_b) [] E0 (tCons (tVar 0) (tCons (tC (.int 5)) tNil))) (tCons (tCall (spW F__law_draw_b) [] E0 (tCons (tVar 0) (tCons (tVar 1) tNil))) tNil)))
    (tSeq (tIfS (tOr (tTest (tOp (rEqD K) (tVar 2) (tC (.int 0)))) (tAnd (tTest (tOp (rEqD K) (tVar 1) (tC (.int 1)))) (tTest (tOp oLt (tVar 2) (tC (.int 3)))))) (tRet (tTupF (tCons (tC .non) (tCons (tVar 3) tNil)))) tNext)
    (tSeq (tIfS (tOr (tTest (tOp (rEqD K) (tVar 2) (tC (.int 1)))) (tTest (tOp (rEqD K) (tVar 1) (tC (.int 1))))) (tRet (tTupF (tCons (tVar 3) (tCons (tC .non) tNil)))) tNext)
    (tRet (tTupF (tCons (tVar 3) (tCons (tOp oMod (tOp (rAddU K) (tOp (rAddU K) (tVar 3) (tC (.int 1))) (tCall (spW F__law_draw_b) [] E0 (tCons (tVar 0) (tCons (tOp oSub (tVar 1) (tC (.int 1))) tNil)))) (tVar 1)) tNil))))))
theorem ss__law_ends_c : SS T__law_ends_c X__law_ends_c := by
  unfold X__law_ends_c T__law_ends_c
  exact ss_seq (ss_par (by decide) (by decide) (swc_dat (sw_callK (swa_cons (sw_M se_int) swa_nil)) (swc_dat (sw_callK (swa_cons (sw_M se_var) swa_nil)) swc_nil)))
    (ss_seq (ss_if (swt_M (st_or (st_test (se_op so_eq se_var se_int)) (st_and (st_test (se_op so_eq se_var se_int)) (st_test (se_op so_lt se_var se_int))))) (ss_ret (sw_M (se_tup (sa_cons se_non (sa_cons se_var sa_nil))))) ss_next)
    (ss_seq (ss_if (swt_M (st_or (st_test (se_op so_eq se_var se_int)) (st_test (se_op so_eq se_var se_int)))) (ss_ret (sw_M (se_tup (sa_cons se_var (sa_cons se_non sa_nil))))) ss_next)
    (ss_ret (sw_tup (swa_cons (sw_M se_var) (swa_cons (sw_op so_mod (sw_op so_add (sw_M (se_op so_add se_var se_int)) (sw_callK (swa_cons (sw_M (se_op so_sub se_var se_int)) swa_nil))) (sw_M se_var)) swa_nil))))))
theorem ss_X__law_shuffled_b1 : SS (tDrop (tBM K "list" rAppend (tVar 3) (tCons (tBM K "list" rPopAt (tVar 2) (tCons (tCall (spW F__law_draw_b) [] E0 (tCons (tVar 0) (tCons (tCB (rLenQ K) (tCons (tVar 2) tNil)) tNil))) tNil)) tNil))) X__law_shuffled_b1 := by
  unfold X__law_shuffled_b1
  exact ss_app (sw_pop (sw_callK (swa_cons (sw_V (se_cb sc_len (sa_cons se_var sa_nil))) swa_nil)))
def T__law_shuffled : TS :=
    tSeq (tAsg (tCB (rListQ K) (tCons (tVar 1) tNil)) (gName 2))
    (tSeq (tAsg (tLst tNil) (gName 3))
    (tSeq (tWhile (tTest (tOp (rNeD K) (tVar 2) (tLst tNil))) (tDrop (tBM K "list" rAppend (tVar 3) (tCons (tBM K "list" rPopAt (tVar 2) (tCons (tCall (spW F__law_draw_b) [] E0 (tCons (tVar 0) (tCons (tCB (rLenQ K) (tCons (tVar 2) tNil)) tNil))) tNil)) tNil))))
    (tRet (tCB (rTupF K) (tCons (tVar 3) tNil)))))
theorem ss__law_shuffled : SS T__law_shuffled X__law_shuffled := by
  unfold X__law_shuffled T__law_shuffled
  exact ss_seq (ss_own (by decide) (swo_M (sef_list se_var)))
    (ss_seq (ss_own (by decide) (swo_lst swc_nil))
    (ss_seq (ss_while (swt_V (st_test (se_op so_ne se_var (SEF.se (sef_lst sa_nil))))) ss_X__law_shuffled_b1)
    (ss_fz (ss_fz (ss_ret (sw_M (se_cb sc_tup (sa_cons se_var sa_nil))))))))
theorem ss_X__law_ordered_b1 : SS (tSeq (tAsg (tLc (iEnumU K (tCons (tVar 2) tNil)) (gTU K 2 (gCons (gName 7) (gCons (gName 8) gNil))) (tTest (tOp (rEqD K) (tOp (rIx K) (tVar 8) (tVar 4)) (tVar 5))) (tVar 7) [7, 8]) (gName 6))
    (tDrop (tBM K "list" rAppend (tOp (rIx K) (tVar 3) (tVar 4)) (tCons (tCall (spW F__law_shuffled) [] E0 (tCons (tVar 0) (tCons (tVar 6) tNil))) tNil)))) X__law_ordered_b1 := by
  unfold X__law_ordered_b1
  exact ss_seq (ss_asg (sg_name (by decide)) (sw_M (SEF.se (sef_lc (si_enum (sa_cons se_var sa_nil)) (sgv_tup (sgv_cons sgv_name (sgv_cons sgv_name sgv_nil))) (by decide) (st_test (se_op so_eq (se_op so_ix se_var se_var) se_var)) se_var))))
    (ss_appS (by decide) se_var (sw_callK (swa_cons (sw_M se_var) swa_nil)))
theorem ss_X__law_ordered_b2 : SS (tFor (iRng1 (tCons (tVar 1) tNil)) (gName 5) (tSeq (tAsg (tLc (iEnumU K (tCons (tVar 2) tNil)) (gTU K 2 (gCons (gName 7) (gCons (gName 8) gNil))) (tTest (tOp (rEqD K) (tOp (rIx K) (tVar 8) (tVar 4)) (tVar 5))) (tVar 7) [7, 8]) (gName 6))
    (tDrop (tBM K "list" rAppend (tOp (rIx K) (tVar 3) (tVar 4)) (tCons (tCall (spW F__law_shuffled) [] E0 (tCons (tVar 0) (tCons (tVar 6) tNil))) tNil))))) X__law_ordered_b2 := by
  unfold X__law_ordered_b2
  exact ss_for (swi_rng (swa_cons (sw_M se_var) swa_nil)) (sg_name (by decide)) ss_X__law_ordered_b1
def T__law_ordered : TS :=
    tSeq (tAsg (tLst (tCons (tLst tNil) (tCons (tLst tNil) tNil))) (gName 3))
    (tSeq (tFor (iRng1 (tCons (tC (.int 2)) tNil)) (gName 4) (tFor (iRng1 (tCons (tVar 1) tNil)) (gName 5) (tSeq (tAsg (tLc (iEnumU K (tCons (tVar 2) tNil)) (gTU K 2 (gCons (gName 7) (gCons (gName 8) gNil))) (tTest (tOp (rEqD K) (tOp (rIx K) (tVar 8) (tVar 4)) (tVar 5))) (tVar 7) [7, 8]) (gName 6))
    (tDrop (tBM K "list" rAppend (tOp (rIx K) (tVar 3) (tVar 4)) (tCons (tCall (spW F__law_shuffled) [] E0 (tCons (tVar 0) (tCons (tVar 6) tNil))) tNil))))))
    (tRet (tTupF (tCons (tCB (rTupF K) (tCons (tVar 2) tNil)) (tCons (tCB (rTupF K) (tCons (tOp (rIx K) (tVar 3) (tC (.int 0))) tNil)) (tCons (tCB (rTupF K) (tCons (tOp (rIx K) (tVar 3) (tC (.int 1))) tNil)) tNil))))))
theorem ss__law_ordered : SS T__law_ordered X__law_ordered := by
  unfold X__law_ordered T__law_ordered
  exact ss_seq (ss_own (by decide) (swo_lst (swc_sub (swo_lst swc_nil) (swc_sub (swo_lst swc_nil) swc_nil))))
    (ss_seq (ss_for (swi_rng (swa_cons (sw_M se_int) swa_nil)) (sg_name (by decide)) ss_X__law_ordered_b2)
    (ss_fz (ss_ret (sw_M (se_tup (sa_cons (se_cb sc_tup (sa_cons se_var sa_nil)) (sa_cons (se_cb sc_tup (sa_cons (se_op so_ix se_var se_int) sa_nil)) (sa_cons (se_cb sc_tup (sa_cons (se_op so_ix se_var se_int) sa_nil)) sa_nil))))))))
def T__law_room_d : TS :=
    tSeq (tAsg (tOp oPow (tC (.int 10)) (tC (.int 12))) (gName 1))
    (tSeq (tAsg (tLst (tCons (tC (.int 0)) (tCons (tC (.int 1)) (tCons (tOp (rAddU K) (tC (.int 1)) (tCall (spW F__law_draw_b) [] E0 (tCons (tVar 0) (tCons (tC (.int 9)) tNil)))) (tCons (tOp (rAddU K) (tC (.int 1)) (tCall (spW F__law_draw_b) [] E0 (tCons (tVar 0) (tCons (tC (.int 1000)) tNil)))) (tCons (tOp (rAddU K) (tC (.int 1)) (tCall (spW F__law_draw_b) [] E0 (tCons (tVar 0) (tCons (tVar 1) tNil)))) tNil)))))) (gName 2))
    (tSeq (tDrop (tBM K "list" rAppend (tVar 2) (tCons (tOp oSub (tVar 1) (tCall (spW F__law_draw_b) [] E0 (tCons (tVar 0) (tCons (tC (.int 9)) tNil)))) tNil)))
    (tRet (tOp (rIx K) (tVar 2) (tCall (spW F__law_draw_b) [] E0 (tCons (tVar 0) (tCons (tC (.int 6)) tNil)))))))
theorem ss__law_room_d : SS T__law_room_d X__law_room_d := by
  unfold X__law_room_d T__law_room_d
  exact ss_seq (ss_asg (sg_name (by decide)) (sw_M (se_op so_pow se_int se_int)))
    (ss_seq (ss_own (by decide) (swo_lst (swc_dat (sw_M se_int) (swc_dat (sw_M se_int) (swc_dat (sw_op so_add (sw_M se_int) (sw_callK (swa_cons (sw_M se_int) swa_nil))) (swc_dat (sw_op so_add (sw_M se_int) (sw_callK (swa_cons (sw_M se_int) swa_nil))) (swc_dat (sw_op so_add (sw_M se_int) (sw_callK (swa_cons (sw_M se_var) swa_nil))) swc_nil)))))))
    (ss_seq (ss_app (sw_op so_sub (sw_M se_var) (sw_callK (swa_cons (sw_M se_int) swa_nil))))
    (ss_fz (ss_ret (sw_op so_ix (sw_M se_var) (sw_callK (swa_cons (sw_M se_int) swa_nil)))))))
def T__law_rounded : TS :=
    tSeq (tAsg (tLc (iRng1 (tCons (tC (.int 8)) tNil)) (gName 5) tYes (tCall (spW F__law_room_d) [] E0 (tCons (tVar 0) tNil)) [5]) (gName 1))
    (tSeq (tAsg (tLst (tCons (tTupF (tCons (tC (.int 0)) (tCons (tC (.int 1)) (tCons (tOp (rIx K) (tVar 1) (tC (.int 0))) tNil)))) (tCons (tTupF (tCons (tC (.int 0)) (tCons (tC (.int 1)) (tCons (tOp (rIx K) (tVar 1) (tC (.int 1))) tNil)))) (tCons (tTupF (tCons (tC (.int 1)) (tCons (tC (.int 0)) (tCons (tOp (rIx K) (tVar 1) (tC (.int 2))) tNil)))) (tCons (tTupF (tCons (tC (.int 1)) (tCons (tC (.int 0)) (tCons (tOp (rIx K) (tVar 1) (tC (.int 3))) tNil)))) (tCons (tTupF (tCons (tC .non) (tCons (tC (.int 0)) (tCons (tOp (rIx K) (tVar 1) (tC (.int 4))) tNil)))) tNil)))))) (gName 2))
    (tSeq (tAsg (tOp (rAddU K) (tVar 2) (tLst (tCons (tTupF (tCons (tC (.int 1)) (tCons (tC .non) (tCons (tOp (rIx K) (tVar 1) (tC (.int 5))) tNil)))) (tCons (tTupF (tCons (tC .non) (tCons (tC (.int 1)) (tCons (tOp (rIx K) (tVar 1) (tC (.int 6))) tNil)))) (tCons (tTupF (tCons (tC (.int 0)) (tCons (tC .non) (tCons (tOp (rIx K) (tVar 1) (tC (.int 7))) tNil)))) tNil))))) (gName 2))
    (tSeq (tAsg (tTupF (tCons (tCall (spW F__law_shuffled) [] E0 (tCons (tVar 0) (tCons (tLst (tCons (tC (.int 0)) (tCons (tC (.int 1)) (tCons (tC (.int 7)) tNil)))) tNil))) (tCons (tCall (spW F__law_shuffled) [] E0 (tCons (tVar 0) (tCons (tLst (tCons (tC (.int 2)) (tCons (tC (.int 3)) (tCons (tC (.int 5)) tNil)))) tNil))) tNil))) (gName 3))
    (tSeq (tAsg (tTupF (tCons (tCall (spW F__law_shuffled) [] E0 (tCons (tVar 0) (tCons (tLst (tCons (tC (.int 2)) (tCons (tC (.int 3)) (tCons (tC (.int 4)) tNil)))) tNil))) (tCons (tCall (spW F__law_shuffled) [] E0 (tCons (tVar 0) (tCons (tLst (tCons (tC (.int 0)) (tCons (tC (.int 1)) (tCons (tC (.int 6)) tNil)))) tNil))) tNil))) (gName 4))
    (tRet (tTupF (tCons (tCB (rTupF K) (tCons (tVar 2) tNil)) (tCons (tVar 3) (tCons (tVar 4) tNil)))))))))
theorem ss__law_rounded : SS T__law_rounded X__law_rounded := by
  unfold X__law_rounded T__law_rounded
  exact ss_seq (ss_asg (sg_name (by decide)) (sw_fz (swo_lc (swi_rng (swa_cons (sw_M se_int) swa_nil)) (sg_name (by decide)) (by decide) (by decide) (swt_M st_yes) (sw_callK swa_nil))))
    (ss_seq (ss_asg (sg_name (by decide)) (sw_M (SEF.se (sef_lst (sa_cons (se_tup (sa_cons se_int (sa_cons se_int (sa_cons (se_op so_ix se_var se_int) sa_nil)))) (sa_cons (se_tup (sa_cons se_int (sa_cons se_int (sa_cons (se_op so_ix se_var se_int) sa_nil)))) (sa_cons (se_tup (sa_cons se_int (sa_cons se_int (sa_cons (se_op so_ix se_var se_int) sa_nil)))) (sa_cons (se_tup (sa_cons se_int (sa_cons se_int (sa_cons (se_op so_ix se_var se_int) sa_nil)))) (sa_cons (se_tup (sa_cons se_non (sa_cons se_int (sa_cons (se_op so_ix se_var se_int) sa_nil)))) sa_nil)))))))))
    (ss_seq (ss_asg (sg_name (by decide)) (sw_M (se_op so_add se_var (SEF.se (sef_lst (sa_cons (se_tup (sa_cons se_int (sa_cons se_non (sa_cons (se_op so_ix se_var se_int) sa_nil)))) (sa_cons (se_tup (sa_cons se_non (sa_cons se_int (sa_cons (se_op so_ix se_var se_int) sa_nil)))) (sa_cons (se_tup (sa_cons se_int (sa_cons se_non (sa_cons (se_op so_ix se_var se_int) sa_nil)))) sa_nil))))))))
    (ss_seq (ss_asg (sg_name (by decide)) (sw_tup (swa_cons (sw_callK (swa_cons (sw_M (SEF.se (sef_lst (sa_cons se_int (sa_cons se_int (sa_cons se_int sa_nil)))))) swa_nil)) (swa_cons (sw_callK (swa_cons (sw_M (SEF.se (sef_lst (sa_cons se_int (sa_cons se_int (sa_cons se_int sa_nil)))))) swa_nil)) swa_nil))))
    (ss_seq (ss_asg (sg_name (by decide)) (sw_tup (swa_cons (sw_callK (swa_cons (sw_M (SEF.se (sef_lst (sa_cons se_int (sa_cons se_int (sa_cons se_int sa_nil)))))) swa_nil)) (swa_cons (sw_callK (swa_cons (sw_M (SEF.se (sef_lst (sa_cons se_int (sa_cons se_int (sa_cons se_int sa_nil)))))) swa_nil)) swa_nil))))
    (ss_ret (sw_M (se_tup (sa_cons (se_cb sc_tup (sa_cons se_var sa_nil)) (sa_cons se_var (sa_cons se_var sa_nil))))))))))
def T__law_far : TS :=
    tSeq (tAsg (tOp (rAddU K) (tC (.int 1)) (tCall (spW F__law_draw_b) [] E0 (tCons (tVar 0) (tCons (tC (.int 8)) tNil)))) (gName 1))
    (tSeq (tAsg (tLc (iRng1 (tCons (tOp (rAddU K) (tC (.int 1)) (tCall (spW F__law_draw_b) [] E0 (tCons (tVar 0) (tCons (tC (.int 20)) tNil)))) tNil)) (gName 4) tYes (tOp (rAddU K) (tCall (spW F__law_ends_c) [] E0 (tCons (tVar 0) (tCons (tVar 1) tNil))) (tTupF (tCons (tCall (spW F__law_room_d) [] E0 (tCons (tVar 0) tNil)) tNil))) [4]) (gName 2))
    (tSeq (tAsg (tCall (spW F__law_ordered) [] E0 (tCons (tVar 0) (tCons (tVar 1) (tCons (tVar 2) tNil)))) (gName 3))
    (tRet (tIf (tTest (tOp (rEqD K) (tCall (spW F__law_draw_b) [] E0 (tCons (tVar 0) (tCons (tC (.int 4)) tNil))) (tC (.int 0)))) (tCall (spW F__law_rounded) [] E0 (tCons (tVar 0) tNil)) (tVar 3)))))
theorem ss__law_far : SS T__law_far X__law_far := by
  unfold X__law_far T__law_far
  exact ss_seq (ss_asg (sg_name (by decide)) (sw_op so_add (sw_M se_int) (sw_callK (swa_cons (sw_M se_int) swa_nil))))
    (ss_seq (ss_asg (sg_name (by decide)) (sw_fz (swo_lc (swi_rng (swa_cons (sw_op so_add (sw_M se_int) (sw_callK (swa_cons (sw_M se_int) swa_nil))) swa_nil)) (sg_name (by decide)) (by decide) (by decide) (swt_M st_yes) (sw_op so_add (sw_callK (swa_cons (sw_M se_var) swa_nil)) (sw_tup (swa_cons (sw_callK swa_nil) swa_nil))))))
    (ss_seq (ss_asg (sg_name (by decide)) (sw_callK (swa_cons (sw_M se_var) (swa_cons (sw_M se_var) swa_nil))))
    (ss_ret (sw_if (swt_test (sw_op so_eq (sw_callK (swa_cons (sw_M se_int) swa_nil)) (sw_M se_int))) (sw_callK swa_nil) (sw_M se_var)))))
def T__law_fullest : TS :=
    tSeq (tAsg (tLc (iRng1 (tCons (tC (.int 20)) tNil)) (gName 2) tYes (tOp (rAddU K) (tCall (spW F__law_ends_c) [] E0 (tCons (tVar 0) (tCons (tC (.int 8)) tNil))) (tTupF (tCons (tOp oPow (tC (.int 10)) (tC (.int 12))) tNil))) [2]) (gName 1))
    (tRet (tCall (spW F__law_ordered) [] E0 (tCons (tVar 0) (tCons (tC (.int 8)) (tCons (tVar 1) tNil)))))
theorem ss__law_fullest : SS T__law_fullest X__law_fullest := by
  unfold X__law_fullest T__law_fullest
  exact ss_seq (ss_asg (sg_name (by decide)) (sw_fz (swo_lc (swi_rng (swa_cons (sw_M se_int) swa_nil)) (sg_name (by decide)) (by decide) (by decide) (swt_M st_yes) (sw_op so_add (sw_callK (swa_cons (sw_M se_int) swa_nil)) (sw_M (se_tup (sa_cons (se_op so_pow se_int se_int) sa_nil)))))))
    (ss_ret (sw_callK (swa_cons (sw_M se_int) (swa_cons (sw_M se_var) swa_nil))))
theorem ss_X__law_small_b1 : SS (tSeq (tAsg (tOp (rIx K) (tLst (tCons (tC (.int 0)) (tCons (tC (.int 1)) (tCons (tC (.int 1)) (tCons (tC (.int 2)) (tCons (tC (.int 2)) (tCons (tC (.int 3)) tNil))))))) (tCall (spW F__law_draw_b) [] E0 (tCons (tVar 0) (tCons (tC (.int 6)) tNil)))) (gName 5))
    (tSeq (tIfS (tTest (tOp oGt (tOp rMulU (tVar 3) (tOp (rAddU K) (tVar 5) (tC (.int 1)))) (tC (.int 729)))) (tAsg (tC (.int 0)) (gName 5)) tNext)
    (tSeq (tAsg (tOp rMulU (tVar 3) (tOp (rAddU K) (tVar 5) (tC (.int 1)))) (gName 3))
    (tDrop (tBM K "list" rAppend (tVar 2) (tCons (tOp (rAddU K) (tCall (spW F__law_ends_c) [] E0 (tCons (tVar 0) (tCons (tVar 1) tNil))) (tTupF (tCons (tVar 5) tNil))) tNil)))))) X__law_small_b1 := by
  unfold X__law_small_b1
  exact ss_seq (ss_asg (sg_name (by decide)) (sw_op so_ix (sw_M (SEF.se (sef_lst (sa_cons se_int (sa_cons se_int (sa_cons se_int (sa_cons se_int (sa_cons se_int (sa_cons se_int sa_nil))))))))) (sw_callK (swa_cons (sw_M se_int) swa_nil))))
    (ss_seq (ss_if (swt_M (st_test (se_op so_gt (se_op so_mul se_var (se_op so_add se_var se_int)) se_int))) (ss_asg (sg_name (by decide)) (sw_M se_int)) ss_next)
    (ss_seq (ss_asg (sg_name (by decide)) (sw_M (se_op so_mul se_var (se_op so_add se_var se_int))))
    (ss_app (sw_op so_add (sw_callK (swa_cons (sw_M se_var) swa_nil)) (sw_M (se_tup (sa_cons se_var sa_nil)))))))
def T__law_small : TS :=
    tSeq (tAsg (tOp (rAddU K) (tC (.int 1)) (tCall (spW F__law_draw_b) [] E0 (tCons (tVar 0) (tCons (tC (.int 3)) tNil)))) (gName 1))
    (tSeq (tAsg (tLst tNil) (gName 2))
    (tSeq (tAsg (tC (.int 1)) (gName 3))
    (tSeq (tFor (iRng1 (tCons (tOp (rAddU K) (tC (.int 2)) (tCall (spW F__law_draw_b) [] E0 (tCons (tVar 0) (tCons (tC (.int 5)) tNil)))) tNil)) (gName 4) (tSeq (tAsg (tOp (rIx K) (tLst (tCons (tC (.int 0)) (tCons (tC (.int 1)) (tCons (tC (.int 1)) (tCons (tC (.int 2)) (tCons (tC (.int 2)) (tCons (tC (.int 3)) tNil))))))) (tCall (spW F__law_draw_b) [] E0 (tCons (tVar 0) (tCons (tC (.int 6)) tNil)))) (gName 5))
    (tSeq (tIfS (tTest (tOp oGt (tOp rMulU (tVar 3) (tOp (rAddU K) (tVar 5) (tC (.int 1)))) (tC (.int 729)))) (tAsg (tC (.int 0)) (gName 5)) tNext)
    (tSeq (tAsg (tOp rMulU (tVar 3) (tOp (rAddU K) (tVar 5) (tC (.int 1)))) (gName 3))
    (tDrop (tBM K "list" rAppend (tVar 2) (tCons (tOp (rAddU K) (tCall (spW F__law_ends_c) [] E0 (tCons (tVar 0) (tCons (tVar 1) tNil))) (tTupF (tCons (tVar 5) tNil))) tNil)))))))
    (tRet (tCall (spW F__law_ordered) [] E0 (tCons (tVar 0) (tCons (tVar 1) (tCons (tVar 2) tNil))))))))
theorem ss__law_small : SS T__law_small X__law_small := by
  unfold X__law_small T__law_small
  exact ss_seq (ss_asg (sg_name (by decide)) (sw_op so_add (sw_M se_int) (sw_callK (swa_cons (sw_M se_int) swa_nil))))
    (ss_seq (ss_own (by decide) (swo_lst swc_nil))
    (ss_seq (ss_asg (sg_name (by decide)) (sw_M se_int))
    (ss_seq (ss_for (swi_rng (swa_cons (sw_op so_add (sw_M se_int) (sw_callK (swa_cons (sw_M se_int) swa_nil))) swa_nil)) (sg_name (by decide)) ss_X__law_small_b1)
    (ss_fz (ss_ret (sw_callK (swa_cons (sw_M se_var) (swa_cons (sw_M se_var) swa_nil))))))))
def T_big_of : TS :=
    tRet (tOp (rAddU K) (tCB (rSum K) (tCons (tLc (iSeq K (tOp (rIx K) (tVar 0) (tC (.int 0)))) (gTU K 3 (gCons (gName 1) (gCons (gName 2) (gCons (gName 3) gNil)))) tYes (tVar 3) [1, 2, 3]) tNil)) (tC (.int 1)))
theorem ss_big_of : SS T_big_of X_big_of := by
  unfold X_big_of T_big_of
  exact ss_ret (sw_M (se_op so_add (se_cb sc_sum (sa_cons (SEF.se (sef_lc (si_seq (se_op so_ix se_var se_int)) (sgv_tup (sgv_cons sgv_name (sgv_cons sgv_name (sgv_cons sgv_name sgv_nil)))) (by decide) st_yes se_var)) sa_nil)) se_int))
def T_door_seats : TS :=
    tRet (tLc (iSeq K (tVar 1)) (gName 2) tYes (tTupF (tCons (tOp (rIx K) (tOp (rIx K) (tOp (rIx K) (tVar 0) (tC (.int 0))) (tVar 2)) (tC (.int 2))) (tCons (tTupF (tCons (tVar 2) tNil)) tNil))) [2])
theorem ss_door_seats : SS T_door_seats X_door_seats := by
  unfold X_door_seats T_door_seats
  exact ss_ret (sw_M (SEF.se (sef_lc (si_seq se_var) sgv_name (by decide) st_yes (se_tup (sa_cons (se_op so_ix (se_op so_ix (se_op so_ix se_var se_int) se_var) se_int) (sa_cons (se_tup (sa_cons se_var sa_nil)) sa_nil))))))
def T_in_doors : TS :=
    tRet (tCB (rTupF K) (tCons (tLc (iEnumU K (tCons (tOp (rIx K) (tVar 0) (tC (.int 0))) tNil)) (gTU K 2 (gCons (gName 1) (gCons (gName 2) gNil))) (tTest (tOp oIsU (tOp (rIx K) (tVar 2) (tC (.int 0))) (tC .non))) (tVar 1) [1, 2]) tNil))
theorem ss_in_doors : SS T_in_doors X_in_doors := by
  unfold X_in_doors T_in_doors
  exact ss_ret (sw_M (se_cb sc_tup (sa_cons (SEF.se (sef_lc (si_enum (sa_cons (se_op so_ix se_var se_int) sa_nil)) (sgv_tup (sgv_cons sgv_name (sgv_cons sgv_name sgv_nil))) (by decide) (st_test (se_op so_isU (se_op so_ix se_var se_int) se_non)) se_var)) sa_nil)))
def T_lying : TS :=
    tRet (tOp (rAddU K) (tCB (rLenQ K) (tCons (tOp (rIx K) (tVar 0) (tC (.int 0))) tNil)) (tOp rMulU (tC (.int 2)) (tVar 1)))
theorem ss_lying : SS T_lying X_lying := by
  unfold X_lying T_lying
  exact ss_ret (sw_M (se_op so_add (se_cb sc_len (sa_cons (se_op so_ix se_var se_int) sa_nil)) (se_op so_mul se_int se_var)))
def T_standing : TS :=
    tRet (tOp (rAddU K) (tCall (spF F_lying) [] E0 (tCons (tVar 0) (tCons (tVar 1) tNil))) (tC (.int 1)))
theorem ss_standing : SS T_standing X_standing := by
  unfold X_standing T_standing
  exact ss_ret (sw_M (se_op so_add (se_call (sa_cons se_var (sa_cons se_var sa_nil))) se_int))
def T_givers_of : TS :=
    tSeq (tAsg (tCall (spF F_big_of) [] E0 (tCons (tVar 0) tNil)) (gName 1))
    (tSeq (tAsg (tLc (iEnumU K (tCons (tOp (rIx K) (tVar 0) (tC (.int 1))) tNil)) (gTU K 2 (gCons (gName 3) (gCons (gName 4) gNil))) tYes (tTupF (tCons (tVar 1) (tCons (tTupF (tCons (tCall (spF F_lying) [] E0 (tCons (tVar 0) (tCons (tVar 3) tNil))) (StX.tStar K (tVar 4) (tCons (tCall (spF F_standing) [] E0 (tCons (tVar 0) (tCons (tVar 3) tNil))) tNil)))) tNil))) [3, 4]) (gName 2))
    (tRet (tCB (rTupF K) (tCons (tOp (rAddU K) (tVar 2) (tCall (spF F_door_seats) [] E0 (tCons (tVar 0) (tCons (tCall (spF F_in_doors) [] E0 (tCons (tVar 0) tNil)) tNil)))) tNil))))
theorem ss_givers_of : SS T_givers_of X_givers_of := by
  unfold X_givers_of T_givers_of
  exact ss_seq (ss_asg (sg_name (by decide)) (sw_M (se_call (sa_cons se_var sa_nil))))
    (ss_seq (ss_asg (sg_name (by decide)) (sw_M (SEF.se (sef_lc (si_enum (sa_cons (se_op so_ix se_var se_int) sa_nil)) (sgv_tup (sgv_cons sgv_name (sgv_cons sgv_name sgv_nil))) (by decide) st_yes (se_tup (sa_cons se_var (sa_cons (se_tup (sa_cons (se_call (sa_cons se_var (sa_cons se_var sa_nil))) (sa_star se_var (sa_cons (se_call (sa_cons se_var (sa_cons se_var sa_nil))) sa_nil)))) sa_nil)))))))
    (ss_ret (sw_M (se_cb sc_tup (sa_cons (se_op so_add se_var (se_call (sa_cons se_var (sa_cons (se_call (sa_cons se_var sa_nil)) sa_nil)))) sa_nil)))))
theorem ss_X_house_ties_b1 : SS (tDrop (tBM K "list" rExtend (tVar 2) (tCons (tLst (tCons (tTupF (tCons (tVar 3) (tCons (tVar 3) (tCons (tVar 1) tNil)))) (tCons (tTupF (tCons (tVar 3) (tCons (tVar 3) (tCons (tVar 1) tNil)))) tNil))) tNil))) X_house_ties_b1 := by
  unfold X_house_ties_b1
  exact ss_ext (sw_M (SEF.se (sef_lst (sa_cons (se_tup (sa_cons se_var (sa_cons se_var (sa_cons se_var sa_nil)))) (sa_cons (se_tup (sa_cons se_var (sa_cons se_var (sa_cons se_var sa_nil)))) sa_nil)))))
def T_house_ties : TS :=
    tSeq (tAsg (tCall (spF F_big_of) [] E0 (tCons (tVar 0) tNil)) (gName 1))
    (tSeq (tAsg (tLst tNil) (gName 2))
    (tSeq (tFor (iRng1 (tCons (tCB (rLenQ K) (tCons (tOp (rIx K) (tVar 0) (tC (.int 1))) tNil)) tNil)) (gName 3) (tDrop (tBM K "list" rExtend (tVar 2) (tCons (tLst (tCons (tTupF (tCons (tVar 3) (tCons (tVar 3) (tCons (tVar 1) tNil)))) (tCons (tTupF (tCons (tVar 3) (tCons (tVar 3) (tCons (tVar 1) tNil)))) tNil))) tNil))))
    (tRet (tCB (rTupF K) (tCons (tVar 2) tNil)))))
theorem ss_house_ties : SS T_house_ties X_house_ties := by
  unfold X_house_ties T_house_ties
  exact ss_seq (ss_asg (sg_name (by decide)) (sw_M (se_call (sa_cons se_var sa_nil))))
    (ss_seq (ss_own (by decide) (swo_lst swc_nil))
    (ss_seq (ss_for (swi_rng (swa_cons (sw_M (se_cb sc_len (sa_cons (se_op so_ix se_var se_int) sa_nil))) swa_nil)) (sg_name (by decide)) ss_X_house_ties_b1)
    (ss_fz (ss_ret (sw_M (se_cb sc_tup (sa_cons se_var sa_nil)))))))
def T_out_doors : TS :=
    tRet (tCB (rTupF K) (tCons (tLc (iEnumU K (tCons (tOp (rIx K) (tVar 0) (tC (.int 0))) tNil)) (gTU K 2 (gCons (gName 1) (gCons (gName 2) gNil))) (tTest (tOp oIsU (tOp (rIx K) (tVar 2) (tC (.int 1))) (tC .non))) (tVar 1) [1, 2]) tNil))
theorem ss_out_doors : SS T_out_doors X_out_doors := by
  unfold X_out_doors T_out_doors
  exact ss_ret (sw_M (se_cb sc_tup (sa_cons (SEF.se (sef_lc (si_enum (sa_cons (se_op so_ix se_var se_int) sa_nil)) (sgv_tup (sgv_cons sgv_name (sgv_cons sgv_name sgv_nil))) (by decide) (st_test (se_op so_isU (se_op so_ix se_var se_int) se_non)) se_var)) sa_nil)))
theorem ss_X_road_ties_b1 : SS (tSeq (tAsg (tIf (tTest (tOp oIsU (tVar 6) (tC .non))) (tOp (rAddU K) (tVar 3) (tIdx K (tVar 1) (tCons (tVar 5) tNil))) (tVar 6)) (gName 9))
    (tSeq (tAsg (tIf (tTest (tOp oIsU (tVar 7) (tC .non))) (tOp (rAddU K) (tVar 3) (tIdx K (tVar 2) (tCons (tVar 5) tNil))) (tVar 7)) (gName 10))
    (tDrop (tBM K "list" rAppend (tVar 4) (tCons (tTupF (tCons (tVar 9) (tCons (tVar 10) (tCons (tVar 8) tNil)))) tNil))))) X_road_ties_b1 := by
  unfold X_road_ties_b1
  exact ss_seq (ss_asg (sg_name (by decide)) (sw_M (se_if (st_test (se_op so_isU se_var se_non)) (se_op so_add se_var (se_idx se_var se_var)) se_var)))
    (ss_seq (ss_asg (sg_name (by decide)) (sw_M (se_if (st_test (se_op so_isU se_var se_non)) (se_op so_add se_var (se_idx se_var se_var)) se_var)))
    (ss_app (sw_M (se_tup (sa_cons se_var (sa_cons se_var (sa_cons se_var sa_nil)))))))
def T_road_ties : TS :=
    tSeq (tAsg (tCall (spF F_in_doors) [] E0 (tCons (tVar 0) tNil)) (gName 1))
    (tSeq (tAsg (tCall (spF F_out_doors) [] E0 (tCons (tVar 0) tNil)) (gName 2))
    (tSeq (tAsg (tCB (rLenQ K) (tCons (tOp (rIx K) (tVar 0) (tC (.int 1))) tNil)) (gName 3))
    (tSeq (tAsg (tLst tNil) (gName 4))
    (tSeq (tFor (iEnumU K (tCons (tOp (rIx K) (tVar 0) (tC (.int 0))) tNil)) (gTU K 2 (gCons (gName 5) (gCons (gTU K 3 (gCons (gName 6) (gCons (gName 7) (gCons (gName 8) gNil)))) gNil))) (tSeq (tAsg (tIf (tTest (tOp oIsU (tVar 6) (tC .non))) (tOp (rAddU K) (tVar 3) (tIdx K (tVar 1) (tCons (tVar 5) tNil))) (tVar 6)) (gName 9))
    (tSeq (tAsg (tIf (tTest (tOp oIsU (tVar 7) (tC .non))) (tOp (rAddU K) (tVar 3) (tIdx K (tVar 2) (tCons (tVar 5) tNil))) (tVar 7)) (gName 10))
    (tDrop (tBM K "list" rAppend (tVar 4) (tCons (tTupF (tCons (tVar 9) (tCons (tVar 10) (tCons (tVar 8) tNil)))) tNil))))))
    (tRet (tCB (rTupF K) (tCons (tVar 4) tNil)))))))
theorem ss_road_ties : SS T_road_ties X_road_ties := by
  unfold X_road_ties T_road_ties
  exact ss_seq (ss_asg (sg_name (by decide)) (sw_M (se_call (sa_cons se_var sa_nil))))
    (ss_seq (ss_asg (sg_name (by decide)) (sw_M (se_call (sa_cons se_var sa_nil))))
    (ss_seq (ss_asg (sg_name (by decide)) (sw_M (se_cb sc_len (sa_cons (se_op so_ix se_var se_int) sa_nil))))
    (ss_seq (ss_own (by decide) (swo_lst swc_nil))
    (ss_seq (ss_for (swi_enum (swa_cons (sw_M (se_op so_ix se_var se_int)) swa_nil)) (sg_tup (sg_cons (sg_name (by decide)) (sg_cons (sg_tup (sg_cons (sg_name (by decide)) (sg_cons (sg_name (by decide)) (sg_cons (sg_name (by decide)) sg_nil)))) sg_nil))) ss_X_road_ties_b1)
    (ss_fz (ss_ret (sw_M (se_cb sc_tup (sa_cons se_var sa_nil)))))))))
def T_takers_of : TS :=
    tSeq (tAsg (tCall (spF F_big_of) [] E0 (tCons (tVar 0) tNil)) (gName 1))
    (tSeq (tAsg (tLc (iEnumU K (tCons (tOp (rIx K) (tVar 0) (tC (.int 2))) tNil)) (gTU K 2 (gCons (gName 3) (gCons (gName 4) gNil))) tYes (tTupF (tCons (tVar 1) (tCons (tTupF (tCons (tCall (spF F_standing) [] E0 (tCons (tVar 0) (tCons (tVar 3) tNil))) (StX.tStar K (tVar 4) (tCons (tCall (spF F_lying) [] E0 (tCons (tVar 0) (tCons (tVar 3) tNil))) tNil)))) tNil))) [3, 4]) (gName 2))
    (tRet (tCB (rTupF K) (tCons (tOp (rAddU K) (tVar 2) (tCall (spF F_door_seats) [] E0 (tCons (tVar 0) (tCons (tCall (spF F_out_doors) [] E0 (tCons (tVar 0) tNil)) tNil)))) tNil))))
theorem ss_takers_of : SS T_takers_of X_takers_of := by
  unfold X_takers_of T_takers_of
  exact ss_seq (ss_asg (sg_name (by decide)) (sw_M (se_call (sa_cons se_var sa_nil))))
    (ss_seq (ss_asg (sg_name (by decide)) (sw_M (SEF.se (sef_lc (si_enum (sa_cons (se_op so_ix se_var se_int) sa_nil)) (sgv_tup (sgv_cons sgv_name (sgv_cons sgv_name sgv_nil))) (by decide) st_yes (se_tup (sa_cons se_var (sa_cons (se_tup (sa_cons (se_call (sa_cons se_var (sa_cons se_var sa_nil))) (sa_star se_var (sa_cons (se_call (sa_cons se_var (sa_cons se_var sa_nil))) sa_nil)))) sa_nil)))))))
    (ss_ret (sw_M (se_cb sc_tup (sa_cons (se_op so_add se_var (se_call (sa_cons se_var (sa_cons (se_call (sa_cons se_var sa_nil)) sa_nil)))) sa_nil)))))
def T_fair_of : TS :=
    tRet (tTupF (tCons (tOp (rAddU K) (tCall (spF F_road_ties) [] E0 (tCons (tVar 0) tNil)) (tCall (spF F_house_ties) [] E0 (tCons (tVar 0) tNil))) (tCons (tCall (spF F_givers_of) [] E0 (tCons (tVar 0) tNil)) (tCons (tCall (spF F_takers_of) [] E0 (tCons (tVar 0) tNil)) tNil))))
theorem ss_fair_of : SS T_fair_of X_fair_of := by
  unfold X_fair_of T_fair_of
  exact ss_ret (sw_M (se_tup (sa_cons (se_op so_add (se_call (sa_cons se_var sa_nil)) (se_call (sa_cons se_var sa_nil))) (sa_cons (se_call (sa_cons se_var sa_nil)) (sa_cons (se_call (sa_cons se_var sa_nil)) sa_nil)))))
def T_is_number : TS :=
    tRet (tAndV (tCB (rIsi K) (tCons (tVar 0) (tCons (tC (.ty "int")) tNil))) (tNotV (tCB (rIsi K) (tCons (tVar 0) (tCons (tC (.ty "bool")) tNil)))))
theorem ss_is_number : SS T_is_number X_is_number := by
  unfold X_is_number T_is_number
  exact ss_ret (sw_M (se_and (se_isi .int rfl se_var) (se_not (se_isi .bool rfl se_var))))
def T_is_number_to : TS :=
    tRet (tAndV (tCall (spF F_is_number) [] E0 (tCons (tVar 0) tNil)) (tChain oLe oLe (tC (.int 0)) (tVar 0) (tVar 1)))
theorem ss_is_number_to : SS T_is_number_to X_is_number_to := by
  unfold X_is_number_to T_is_number_to
  exact ss_ret (sw_M (se_and (se_call (sa_cons se_var sa_nil)) (se_chain so_le so_le se_int se_var se_var)))
def T_is_order : TS :=
    tRet (tAndV (tCB (rIsi K) (tCons (tVar 0) (tCons (tC (.ty "tuple")) tNil))) (tAndV (tCB (rAll K) (tCons (tLc (iSeq K (tVar 0)) (gName 2) tYes (tCall (spF F_is_number) [] E0 (tCons (tVar 2) tNil)) [2]) tNil)) (tOp (rEqD K) (tCB (rSortedU K) (tCons (tVar 0) tNil)) (tVar 1))))
theorem ss_is_order : SS T_is_order X_is_order := by
  unfold X_is_order T_is_order
  exact ss_ret (sw_M (se_and (se_isi .tuple rfl se_var) (se_and (se_cb sc_all (sa_cons (SEF.se (sef_lc (si_seq se_var) sgv_name (by decide) st_yes (se_call (sa_cons se_var sa_nil)))) sa_nil)) (se_op so_eq (se_cb sc_sort (sa_cons se_var sa_nil)) se_var))))
def T_is_tuple_of : TS :=
    tRet (tAndV (tCB (rIsi K) (tCons (tVar 0) (tCons (tC (.ty "tuple")) tNil))) (tChain oLe oLe (tVar 1) (tCB (rLenQ K) (tCons (tVar 0) tNil)) (tVar 2)))
theorem ss_is_tuple_of : SS T_is_tuple_of X_is_tuple_of := by
  unfold X_is_tuple_of T_is_tuple_of
  exact ss_ret (sw_M (se_and (se_isi .tuple rfl se_var) (se_chain so_le so_le se_var (se_cb sc_len (sa_cons se_var sa_nil)) se_var)))
def T_is_seat : TS :=
    tRet (tAndV (tCall (spF F_is_tuple_of) [] E0 (tCons (tVar 0) (tCons (tC (.int 2)) (tCons (tC (.int 2)) tNil)))) (tAndV (tCall (spF F_is_number_to) [] E0 (tCons (tOp (rIx K) (tVar 0) (tC (.int 0))) (tCons (tC (.int 1000000000000000)) tNil))) (tCall (spF F_is_order) [] E0 (tCons (tOp (rIx K) (tVar 0) (tC (.int 1))) (tCons (tVar 1) tNil)))))
theorem ss_is_seat : SS T_is_seat X_is_seat := by
  unfold X_is_seat T_is_seat
  exact ss_ret (sw_M (se_and (se_call (sa_cons se_var (sa_cons se_int (sa_cons se_int sa_nil)))) (se_and (se_call (sa_cons (se_op so_ix se_var se_int) (sa_cons se_int sa_nil))) (se_call (sa_cons (se_op so_ix se_var se_int) (sa_cons se_var sa_nil))))))
def T_are_seats : TS :=
    tRet (tCB (rAll K) (tCons (tLc (iEnumU K (tCons (tVar 0) tNil)) (gTU K 2 (gCons (gName 2) (gCons (gName 3) gNil))) tYes (tCall (spF F_is_seat) [] E0 (tCons (tVar 3) (tCons (tLc (iEnumU K (tCons (tVar 1) tNil)) (gTU K 2 (gCons (gName 4) (gCons (gName 5) gNil))) (tTest (tOp (rEqD K) (tVar 5) (tVar 2))) (tVar 4) [4, 5]) tNil))) [2, 3]) tNil))
theorem ss_are_seats : SS T_are_seats X_are_seats := by
  unfold X_are_seats T_are_seats
  exact ss_ret (sw_M (se_cb sc_all (sa_cons (SEF.se (sef_lc (si_enum (sa_cons se_var sa_nil)) (sgv_tup (sgv_cons sgv_name (sgv_cons sgv_name sgv_nil))) (by decide) st_yes (se_call (sa_cons se_var (sa_cons (SEF.se (sef_lc (si_enum (sa_cons se_var sa_nil)) (sgv_tup (sgv_cons sgv_name (sgv_cons sgv_name sgv_nil))) (by decide) (st_test (se_op so_eq se_var se_var)) se_var)) sa_nil))))) sa_nil)))
def T_is_tie : TS :=
    tSeq (tIfS (tNot (tB (tCall (spF F_is_tuple_of) [] E0 (tCons (tVar 0) (tCons (tC (.int 3)) (tCons (tC (.int 3)) tNil)))))) (tRet (tC (.bl false))) tNext)
    (tSeq (tAsg (tVar 0) (gTU K 3 (gCons (gName 3) (gCons (gName 4) (gCons (gName 5) gNil)))))
    (tRet (tAndV (tCall (spF F_is_number_to) [] E0 (tCons (tVar 3) (tCons (tOp oSub (tVar 1) (tC (.int 1))) tNil))) (tAndV (tCall (spF F_is_number_to) [] E0 (tCons (tVar 4) (tCons (tOp oSub (tVar 2) (tC (.int 1))) tNil))) (tCall (spF F_is_number_to) [] E0 (tCons (tVar 5) (tCons (tC (.int 1000000000000000)) tNil)))))))
theorem ss_is_tie : SS T_is_tie X_is_tie := by
  unfold X_is_tie T_is_tie
  exact ss_seq (ss_if (swt_M (st_not (st_B (se_call (sa_cons se_var (sa_cons se_int (sa_cons se_int sa_nil))))))) (ss_ret (sw_M se_bl)) ss_next)
    (ss_seq (ss_asg (sg_tup (sg_cons (sg_name (by decide)) (sg_cons (sg_name (by decide)) (sg_cons (sg_name (by decide)) sg_nil)))) (sw_M se_var))
    (ss_ret (sw_M (se_and (se_call (sa_cons se_var (sa_cons (se_op so_sub se_var se_int) sa_nil))) (se_and (se_call (sa_cons se_var (sa_cons (se_op so_sub se_var se_int) sa_nil))) (se_call (sa_cons se_var (sa_cons se_int sa_nil))))))))
def T_is_fair : TS :=
    tSeq (tIfS (tNot (tB (tCall (spF F_is_tuple_of) [] E0 (tCons (tVar 0) (tCons (tC (.int 3)) (tCons (tC (.int 3)) tNil)))))) (tRet (tC (.bl false))) tNext)
    (tSeq (tAsg (tVar 0) (gTU K 3 (gCons (gName 1) (gCons (gName 2) (gCons (gName 3) gNil)))))
    (tSeq (tIfS (tOr (tNot (tB (tCall (spF F_is_tuple_of) [] E0 (tCons (tVar 1) (tCons (tC (.int 0)) (tCons (tC (.int 36)) tNil)))))) (tOr (tNot (tB (tCall (spF F_is_tuple_of) [] E0 (tCons (tVar 2) (tCons (tC (.int 1)) (tCons (tC (.int 28)) tNil)))))) (tNot (tB (tCall (spF F_is_tuple_of) [] E0 (tCons (tVar 3) (tCons (tC (.int 1)) (tCons (tC (.int 28)) tNil)))))))) (tRet (tC (.bl false))) tNext)
    (tSeq (tIfS (tNot (tB (tCB (rAll K) (tCons (tLc (iSeq K (tVar 1)) (gName 4) tYes (tCall (spF F_is_tie) [] E0 (tCons (tVar 4) (tCons (tCB (rLenQ K) (tCons (tVar 2) tNil)) (tCons (tCB (rLenQ K) (tCons (tVar 3) tNil)) tNil)))) [4]) tNil)))) (tRet (tC (.bl false))) tNext)
    (tRet (tAndV (tCall (spF F_are_seats) [] E0 (tCons (tVar 2) (tCons (tLc (iSeq K (tVar 1)) (gName 4) tYes (tOp (rIx K) (tVar 4) (tC (.int 0))) [4]) tNil))) (tCall (spF F_are_seats) [] E0 (tCons (tVar 3) (tCons (tLc (iSeq K (tVar 1)) (gName 4) tYes (tOp (rIx K) (tVar 4) (tC (.int 1))) [4]) tNil))))))))
theorem ss_is_fair : SS T_is_fair X_is_fair := by
  unfold X_is_fair T_is_fair
  exact ss_seq (ss_if (swt_M (st_not (st_B (se_call (sa_cons se_var (sa_cons se_int (sa_cons se_int sa_nil))))))) (ss_ret (sw_M se_bl)) ss_next)
    (ss_seq (ss_asg (sg_tup (sg_cons (sg_name (by decide)) (sg_cons (sg_name (by decide)) (sg_cons (sg_name (by decide)) sg_nil)))) (sw_M se_var))
    (ss_seq (ss_if (swt_M (st_or (st_not (st_B (se_call (sa_cons se_var (sa_cons se_int (sa_cons se_int sa_nil)))))) (st_or (st_not (st_B (se_call (sa_cons se_var (sa_cons se_int (sa_cons se_int sa_nil)))))) (st_not (st_B (se_call (sa_cons se_var (sa_cons se_int (sa_cons se_int sa_nil))))))))) (ss_ret (sw_M se_bl)) ss_next)
    (ss_seq (ss_if (swt_M (st_not (st_B (se_cb sc_all (sa_cons (SEF.se (sef_lc (si_seq se_var) sgv_name (by decide) st_yes (se_call (sa_cons se_var (sa_cons (se_cb sc_len (sa_cons se_var sa_nil)) (sa_cons (se_cb sc_len (sa_cons se_var sa_nil)) sa_nil)))))) sa_nil))))) (ss_ret (sw_M se_bl)) ss_next)
    (ss_ret (sw_M (se_and (se_call (sa_cons se_var (sa_cons (SEF.se (sef_lc (si_seq se_var) sgv_name (by decide) st_yes (se_op so_ix se_var se_int))) sa_nil))) (se_call (sa_cons se_var (sa_cons (SEF.se (sef_lc (si_seq se_var) sgv_name (by decide) st_yes (se_op so_ix se_var se_int))) sa_nil)))))))))
theorem ss_X_law_z38_b1 : SS (tSeq (tAsg (tCall (spF F_fair_of) [] E0 (tCons (tVar 3) tNil)) (gName 7))
    (tIfS (tOr (tTest (tOp (rNeD K) (tCB (rRepr K) (tCons (tVar 7) tNil)) (tCB (rRepr K) (tCons (tVar 5) tNil)))) (tTest (tOp oNotU (tCall (spF F_is_fair) [] E0 (tCons (tVar 7) tNil)) (tC (.bl true))))) (tRet (tC (.bl false))) tNext)) X_law_z38_b1 := by
  unfold X_law_z38_b1
  exact ss_seq (ss_asg (sg_name (by decide)) (sw_M (se_call (sa_cons se_var sa_nil))))
    (ss_if (swt_M (st_or (st_test (se_op so_ne (se_cb sc_repr (sa_cons se_var sa_nil)) (se_cb sc_repr (sa_cons se_var sa_nil)))) (st_test (se_op so_isntU (se_call (sa_cons se_var sa_nil)) se_bl)))) (ss_ret (sw_M se_bl)) ss_next)
theorem ss_X_law_z38_b2 : SS (tSeq (tPar 4 5 (tCons (tCB (rRepr K) (tCons (tVar 3) tNil)) (tCons (tCall (spF F__law_fair_b) [] E0 (tCons (tVar 3) tNil)) tNil)))
    (tSeq (tFor (iRng1 (tCons (tC (.int 2)) tNil)) (gName 6) (tSeq (tAsg (tCall (spF F_fair_of) [] E0 (tCons (tVar 3) tNil)) (gName 7))
    (tIfS (tOr (tTest (tOp (rNeD K) (tCB (rRepr K) (tCons (tVar 7) tNil)) (tCB (rRepr K) (tCons (tVar 5) tNil)))) (tTest (tOp oNotU (tCall (spF F_is_fair) [] E0 (tCons (tVar 7) tNil)) (tC (.bl true))))) (tRet (tC (.bl false))) tNext)))
    (tIfS (tTest (tOp (rNeD K) (tCB (rRepr K) (tCons (tVar 3) tNil)) (tVar 4))) (tRet (tC (.bl false))) tNext))) X_law_z38_b2 := by
  unfold X_law_z38_b2
  exact ss_seq (ss_par (by decide) (by decide) (swc_dat (sw_M (se_cb sc_repr (sa_cons se_var sa_nil))) (swc_dat (sw_M (se_call (sa_cons se_var sa_nil))) swc_nil)))
    (ss_seq (ss_for (swi_rng (swa_cons (sw_M se_int) swa_nil)) (sg_name (by decide)) ss_X_law_z38_b1)
    (ss_if (swt_M (st_test (se_op so_ne (se_cb sc_repr (sa_cons se_var sa_nil)) se_var))) (ss_ret (sw_M se_bl)) ss_next))
def T_law_z38 : TS :=
    tSeq (tAsg (tCall (spD F__law_deck_e) [] E0 (tCons (tVar 0) tNil)) (gName 1))
    (tSeq (tAsg (tLst (tCons (tCall (spW F__law_small) [] E0 (tCons (tVar 1) tNil)) (tCons (tCall (spW F__law_far) [] E0 (tCons (tVar 1) tNil)) (tCons (tCall (spW F__law_far) [] E0 (tCons (tVar 1) tNil)) (tCons (tCall (spW F__law_fullest) [] E0 (tCons (tVar 1) tNil)) tNil))))) (gName 2))
    (tSeq (tFor (iSeq K (tVar 2)) (gName 3) (tSeq (tPar 4 5 (tCons (tCB (rRepr K) (tCons (tVar 3) tNil)) (tCons (tCall (spF F__law_fair_b) [] E0 (tCons (tVar 3) tNil)) tNil)))
    (tSeq (tFor (iRng1 (tCons (tC (.int 2)) tNil)) (gName 6) (tSeq (tAsg (tCall (spF F_fair_of) [] E0 (tCons (tVar 3) tNil)) (gName 7))
    (tIfS (tOr (tTest (tOp (rNeD K) (tCB (rRepr K) (tCons (tVar 7) tNil)) (tCB (rRepr K) (tCons (tVar 5) tNil)))) (tTest (tOp oNotU (tCall (spF F_is_fair) [] E0 (tCons (tVar 7) tNil)) (tC (.bl true))))) (tRet (tC (.bl false))) tNext)))
    (tIfS (tTest (tOp (rNeD K) (tCB (rRepr K) (tCons (tVar 3) tNil)) (tVar 4))) (tRet (tC (.bl false))) tNext))))
    (tRet (tC (.bl true)))))
theorem ss_law_z38 : SS T_law_z38 X_law_z38 := by
  unfold X_law_z38 T_law_z38
  exact ss_seq (ss_own (by decide) (sw_callD (swa_cons (sw_M se_var) swa_nil)))
    (ss_seq (ss_asg (sg_name (by decide)) (sw_lst (swa_cons (sw_callK swa_nil) (swa_cons (sw_callK swa_nil) (swa_cons (sw_callK swa_nil) (swa_cons (sw_callK swa_nil) swa_nil))))))
    (ss_fz (ss_seq (ss_for (swi_seq (sw_M se_var)) (sg_name (by decide)) ss_X_law_z38_b2)
    (ss_ret (sw_M se_bl)))))
end
end Fn
namespace Fn
open PySem PySem.Spec PyProof.Rows L2 Uv
/-! the program: what several files ask -/
@[simp] theorem p_is_number {i : Int} : F_is_number [.int i] = some (.bool true) := by
  unfold F_is_number
  refine eq_of_wp (wp_runP rfl ?_)
  unfold X_is_number
  simp -implicitDefEqProofs
@[simp] theorem p_is_number_to {i m : Int} : F_is_number_to [.int i, .int m] = some (.bool (decide (0 ≤ i) && decide (i ≤ m))) := by
  unfold F_is_number_to
  refine eq_of_wp (wp_runP rfl ?_)
  unfold X_is_number_to
  simp -implicitDefEqProofs
@[simp] theorem p_is_tuple_of {ds : List PD} {a b : Int} : F_is_tuple_of [.tuple ds, .int a, .int b] = some (.bool (decide (a ≤ ds.length) && decide ((ds.length : Int) ≤ b))) := by
  unfold F_is_tuple_of
  refine eq_of_wp (wp_runP rfl ?_)
  unfold X_is_tuple_of
  simp -implicitDefEqProofs
theorem q_sortP {l m : List Nat} (p : l.Perm m) (hs : m.Pairwise (· < ·)) : sortP (natsD l) = some (.list (m.map natD)) := by
  rw [q_sort, sort_perm p hs, List.map_map]
  rfl
theorem eq_natsL {l m : List Nat} : eqP (.list (l.map natD)) (.list (m.map natD)) = some (.bool (l == m)) := by
  rw [eqP_lay Lay.natsL Lay.natsL, ← eqv_nats]
  rfl
theorem p_is_order {l m : List Nat} (p : l.Perm m) (hs : m.Pairwise (· < ·)) (hl : l.length ≤ 40000) : F_is_order [natsD l, .list (m.map natD)] = some (.bool true) := by
  unfold F_is_order
  refine eq_of_wp (wp_runP rfl ?_)
  unfold X_is_order
  simp -implicitDefEqProofs
  refine ⟨hl, wp_lcT (fun _ => .bool true) (fun x hx => by simp -implicitDefEqProofs) ?_⟩
  simp -implicitDefEqProofs [q_all, q_sortP p hs, eq_natsL]
/-! fairs -/
def tside (s : Nat) (x : Tie) : Nat := if s = 0 then x.g else x.t
/-- the ties of a seat -/
def atT (ts : List Tie) (s k : Nat) : List Nat := (ts.zipIdx.filter fun p => tside s p.1 == k).map (·.2)
structure OkTie (g t : Nat) (x : Tie) : Prop where
  g : x.g < g
  t : x.t < t
  r0 : 0 ≤ x.r
  r1 : x.r ≤ 1000000000000000
structure OkSeat (ts : List Tie) (s k : Nat) (x : Seat) : Prop where
  m0 : 0 ≤ x.much
  m1 : x.much ≤ 1000000000000000
  p : x.order.Perm (atT ts s k)
structure IsFair (F : Fair) : Prop where
  g : 1 ≤ F.givers.length ∧ F.givers.length ≤ 28
  t : 1 ≤ F.takers.length ∧ F.takers.length ≤ 28
  n : F.ties.length ≤ 36
  tie : ∀ x ∈ F.ties, OkTie F.givers.length F.takers.length x
  give : ∀ (k : Nat) (x : Seat), F.givers[k]? = some x → OkSeat F.ties 0 k x
  take : ∀ (k : Nat) (x : Seat), F.takers[k]? = some x → OkSeat F.ties 1 k x
theorem atT_sorted (ts : List Tie) (s k : Nat) : (atT ts s k).Pairwise (· < ·) := (zip_sorted ts 0 _).1
theorem atT_len {ts : List Tie} {s k : Nat} : (atT ts s k).length ≤ ts.length := by
  unfold atT
  rw [List.length_map]
  exact Nat.le_trans (List.length_filter_le _ _) (by simp)
theorem atT_lt {ts : List Tie} {s k j : Nat} (h : j ∈ atT ts s k) : j < ts.length := by
  unfold atT at h
  obtain ⟨⟨x, i⟩, h1, rfl⟩ := List.mem_map.mp h
  have h3 := List.mem_zipIdx (List.mem_filter.mp h1).1
  simp at h3
  omega
theorem p_is_tie {x : Tie} {g t : Nat} (h : OkTie g t x) : F_is_tie [tieD x, natD g, natD t] = some (.bool true) := by
  have h1 := h.g
  have h2 := h.t
  have h3 := h.r0
  have h4 := h.r1
  unfold F_is_tie
  refine eq_of_wp (wp_runP rfl ?_)
  unfold X_is_tie
  have e : F_is_tuple_of [tieD x, .int 3, .int 3] = some (.bool true) := p_is_tuple_of (ds := [natD x.g, natD x.t, .int x.r])
  simp -implicitDefEqProofs [e]
  omega
theorem p_is_seat {ts : List Tie} {s k : Nat} {x : Seat} (h : OkSeat ts s k x) (hl : ts.length ≤ 36) : F_is_seat [seatD x, .list ((atT ts s k).map natD)] = some (.bool true) := by
  have h3 := h.m0
  have h4 := h.m1
  unfold F_is_seat
  refine eq_of_wp (wp_runP rfl ?_)
  unfold X_is_seat
  have e : F_is_tuple_of [seatD x, .int 2, .int 2] = some (.bool true) := p_is_tuple_of (ds := [.int x.much, natsD x.order])
  have e2 := p_is_order h.p (atT_sorted ts s k) (by rw [h.p.length_eq]; have := atT_len (ts := ts) (s := s) (k := k); omega)
  simp -implicitDefEqProofs [e, e2]
  omega
theorem p_are_seats {ts : List Tie} {s : Nat} {xs : List Seat} (h : ∀ (k : Nat) (x : Seat), xs[k]? = some x → OkSeat ts s k x) (hl : ts.length ≤ 36) (hx : xs.length ≤ 28) : F_are_seats [.tuple (xs.map seatD), .list (ts.map fun x => natD (tside s x))] = some (.bool true) := by
  unfold F_are_seats
  refine eq_of_wp (wp_runP rfl ?_)
  unfold X_are_seats
  simp -implicitDefEqProofs
  refine ⟨by omega, wp_lcET (fun _ => .bool true) (fun k hk => ?_) ?_⟩
  · simp -implicitDefEqProofs
    refine ⟨by omega, ?_⟩
    rw [show (ts.map fun x => natD (tside s x)) = (ts.map (tside s)).map natD by rw [List.map_map]; rfl]
    refine wp_lcE (fun p => p.1 == k) (fun p => natD p.2) (fun i hi => ?_) ?_
    · simp -implicitDefEqProofs
      exact Bool.eq_iff_iff.mpr (by simp; omega)
    · have e : (((ts.map (tside s)).zipIdx.filter fun p => p.1 == k).map fun p => natD p.2) = (atT ts s k).map natD := by
        unfold atT
        rw [List.zipIdx_map, List.filter_map, List.map_map, List.map_map]
        rfl
      rw [e]
      simp -implicitDefEqProofs [p_is_seat (h k xs[k] (List.getElem?_eq_getElem hk)) hl]
  · simp -implicitDefEqProofs [q_all]
theorem p_is_fair {F : Fair} (h : IsFair F) : F_is_fair [fairD F] = some (.bool true) := by
  have hg := h.g
  have ht := h.t
  have hn := h.n
  unfold F_is_fair
  refine eq_of_wp (wp_runP rfl ?_)
  unfold X_is_fair
  have e : F_is_tuple_of [fairD F, .int 3, .int 3] = some (.bool true) := p_is_tuple_of (ds := [.tuple (F.ties.map tieD), .tuple (F.givers.map seatD), .tuple (F.takers.map seatD)])
  simp -implicitDefEqProofs [e]
  refine wp_alt (fun c => ?_) (fun c => ?_)
  · simp at c
    omega
  · simp -implicitDefEqProofs
    refine ⟨by omega, wp_lcT (fun _ => .bool true) (fun x hx => ?_) ?_⟩
    · simp -implicitDefEqProofs [p_is_tie (h.tie x hx)]
    · simp -implicitDefEqProofs [q_all]
      refine ⟨by omega, wp_lcT (fun x => natD (tside 0 x)) (fun x hx => by simp -implicitDefEqProofs [tside]) ?_⟩
      simp -implicitDefEqProofs [p_are_seats (s := 0) h.give hn hg.2]
      refine ⟨by omega, wp_lcT (fun x => natD (tside 1 x)) (fun x hx => by simp -implicitDefEqProofs [tside]) ?_⟩
      simp -implicitDefEqProofs [p_are_seats (s := 1) h.take hn ht.2]
end Fn

namespace Fn
open PySem PySem.Spec PyProof.Rows L2 Uv
/-! the program: webs led to fairs -/
def doorP (W : Web) (s : Nat) : List (Road × Nat) := W.roads.zipIdx.filter fun p => (side s p.1).isNone
def doorsOf (W : Web) (s : Nat) : List Nat := (doorP W s).map (·.2)
def bigOf (W : Web) : Int := (W.roads.map (·.r)).sum + 1
def seatOf (W : Web) (s : Nat) (p : Road × Nat) : Nat := match side s p.1 with
  | none => W.gives.length + (doorsOf W s).idxOf p.2
  | some h => h
def roadTies (W : Web) : List Tie := W.roads.zipIdx.map fun p => ⟨seatOf W 0 p, seatOf W 1 p, p.1.r⟩
def houseTies (W : Web) : List Tie := (List.range W.gives.length).flatMap fun h => [⟨h, h, bigOf W⟩, ⟨h, h, bigOf W⟩]
def lyingOf (W : Web) (h : Nat) : Nat := W.roads.length + 2 * h
def doorSeats (W : Web) (s : Nat) : List Seat := (doorP W s).map fun p => ⟨p.1.r, [p.2]⟩
def giversOf (W : Web) : List Seat := (W.gives.zipIdx.map fun p => ⟨bigOf W, lyingOf W p.2 :: (p.1 ++ [lyingOf W p.2 + 1])⟩) ++ doorSeats W 0
def takersOf (W : Web) : List Seat := (W.takes.zipIdx.map fun p => ⟨bigOf W, (lyingOf W p.2 + 1) :: (p.1 ++ [lyingOf W p.2])⟩) ++ doorSeats W 1
def fairOf (W : Web) : Fair := ⟨roadTies W ++ houseTies W, giversOf W, takersOf W⟩
theorem doorP_mem {W : Web} {s : Nat} {p : Road × Nat} (h : p ∈ doorP W s) : ∃ hk : p.2 < W.roads.length, W.roads[p.2] = p.1 ∧ side s p.1 = none := by
  unfold doorP at h
  obtain ⟨h1, h2⟩ := List.mem_filter.mp h
  obtain ⟨x, i⟩ := p
  obtain ⟨h3, h4⟩ := List.mem_zipIdx' h1
  exact ⟨h3, h4.symm, by simpa using h2⟩
theorem doors_len {W : Web} {s : Nat} : (doorP W s).length ≤ W.roads.length := by
  unfold doorP
  exact Nat.le_trans (List.length_filter_le _ _) (by simp)
theorem p_in_doors {W : Web} (hw : IsWeb W) : F_in_doors [webD W] = some (natsD (doorsOf W 0)) := by
  have hc := hw.count
  unfold F_in_doors
  refine eq_of_wp (wp_runP rfl ?_)
  unfold X_in_doors
  simp -implicitDefEqProofs
  refine ⟨by omega, wp_lcE (fun p => (side 0 p.1).isNone) (fun p => natD p.2) (fun i hi => by simp -implicitDefEqProofs [side]) ?_⟩
  simp -implicitDefEqProofs
  unfold doorsOf natsD doorP
  rw [List.map_map]
  rfl
theorem p_out_doors {W : Web} (hw : IsWeb W) : F_out_doors [webD W] = some (natsD (doorsOf W 1)) := by
  have hc := hw.count
  unfold F_out_doors
  refine eq_of_wp (wp_runP rfl ?_)
  unfold X_out_doors
  simp -implicitDefEqProofs
  refine ⟨by omega, wp_lcE (fun p => (side 1 p.1).isNone) (fun p => natD p.2) (fun i hi => by simp -implicitDefEqProofs [side]) ?_⟩
  simp -implicitDefEqProofs
  unfold doorsOf natsD doorP
  rw [List.map_map]
  rfl
theorem p_big_of {W : Web} (hw : IsWeb W) : F_big_of [webD W] = some (.int (bigOf W)) := by
  have hc := hw.count
  unfold F_big_of
  refine eq_of_wp (wp_runP rfl ?_)
  unfold X_big_of
  simp -implicitDefEqProofs
  refine ⟨by omega, wp_lcT (fun x => .int x.r) (fun x hx => by simp -implicitDefEqProofs) ?_⟩
  simp -implicitDefEqProofs [q_sum]
  rfl
theorem p_lying {W : Web} {h : Nat} : F_lying [webD W, natD h] = some (natD (lyingOf W h)) := by
  unfold F_lying
  refine eq_of_wp (wp_runP rfl ?_)
  unfold X_lying
  simp -implicitDefEqProofs
  rfl
theorem p_standing {W : Web} {h : Nat} : F_standing [webD W, natD h] = some (natD (lyingOf W h + 1)) := by
  unfold F_standing
  refine eq_of_wp (wp_runP rfl ?_)
  unfold X_standing
  simp -implicitDefEqProofs [p_lying]
theorem p_door_seats {W : Web} {s : Nat} (hw : IsWeb W) : F_door_seats [webD W, natsD (doorsOf W s)] = some (.list ((doorSeats W s).map seatD)) := by
  have hc := hw.count
  have hd := doors_len (W := W) (s := s)
  unfold F_door_seats
  refine eq_of_wp (wp_runP rfl ?_)
  unfold X_door_seats
  simp -implicitDefEqProofs
  refine ⟨by unfold doorsOf; simp; omega, ?_⟩
  rw [show (doorsOf W s).map natD = (doorP W s).map fun p => natD p.2 by unfold doorsOf; rw [List.map_map]; rfl]
  refine wp_lcT (fun p => seatD ⟨p.1.r, [p.2]⟩) (fun p hp => ?_) ?_
  · obtain ⟨h1, h2, h3⟩ := doorP_mem hp
    simp -implicitDefEqProofs [atI_map h1, h2]
    rfl
  · simp -implicitDefEqProofs
    unfold doorSeats
    rw [List.map_map]
    rfl
theorem give_len {W : Web} (hw : IsWeb W) {i : Nat} (hi : i < W.gives.length) : W.gives[i].length ≤ 20 := by
  rw [(hw.give i _ (List.getElem?_eq_getElem hi)).length_eq]
  unfold atR
  rw [List.length_map]
  exact Nat.le_trans (List.length_filter_le _ _) (by simpa using hw.count.2)
theorem take_len {W : Web} (hw : IsWeb W) {i : Nat} (hi : i < W.takes.length) : W.takes[i].length ≤ 20 := by
  rw [(hw.take i _ (List.getElem?_eq_getElem hi)).length_eq]
  unfold atR
  rw [List.length_map]
  exact Nat.le_trans (List.length_filter_le _ _) (by simpa using hw.count.2)
theorem p_givers_of {W : Web} (hw : IsWeb W) : F_givers_of [webD W] = some (.tuple ((giversOf W).map seatD)) := by
  have hc := hw.count
  have hh := hw.houses
  have hd := doors_len (W := W) (s := 0)
  unfold F_givers_of
  refine eq_of_wp (wp_runP rfl ?_)
  unfold X_givers_of
  simp -implicitDefEqProofs [p_big_of hw]
  refine ⟨by omega, wp_lcET (fun p => seatD ⟨bigOf W, lyingOf W p.2 :: (p.1 ++ [lyingOf W p.2 + 1])⟩) (fun i hi => ?_) ?_⟩
  · simp -implicitDefEqProofs [p_lying, p_standing]
    refine ⟨by have := give_len hw hi; omega, ?_⟩
    unfold seatD natsD
    simp
  · simp -implicitDefEqProofs [p_in_doors hw, p_door_seats hw]
    refine ⟨by unfold doorSeats; simp; omega, ?_⟩
    unfold giversOf
    rw [List.map_append, List.map_map]
    rfl
theorem p_takers_of {W : Web} (hw : IsWeb W) : F_takers_of [webD W] = some (.tuple ((takersOf W).map seatD)) := by
  have hc := hw.count
  have hh := hw.houses
  have hs := hw.same
  have hd := doors_len (W := W) (s := 1)
  unfold F_takers_of
  refine eq_of_wp (wp_runP rfl ?_)
  unfold X_takers_of
  simp -implicitDefEqProofs [p_big_of hw]
  refine ⟨by omega, wp_lcET (fun p => seatD ⟨bigOf W, (lyingOf W p.2 + 1) :: (p.1 ++ [lyingOf W p.2])⟩) (fun i hi => ?_) ?_⟩
  · simp -implicitDefEqProofs [p_lying, p_standing]
    refine ⟨by have := take_len hw hi; omega, ?_⟩
    unfold seatD natsD
    simp
  · simp -implicitDefEqProofs [p_out_doors hw, p_door_seats hw]
    refine ⟨by unfold doorSeats; simp; omega, ?_⟩
    unfold takersOf
    rw [List.map_append, List.map_map]
    rfl
theorem door_in {W : Web} {s i : Nat} (hi : i < W.roads.length) (h : side s W.roads[i] = none) : i ∈ doorsOf W s := by
  unfold doorsOf doorP
  refine List.mem_map.mpr ⟨(W.roads[i], i), List.mem_filter.mpr ⟨?_, by simp [h]⟩, rfl⟩
  exact List.mem_zipIdx_iff_getElem?.mpr (List.getElem?_eq_getElem hi)
theorem p_road_ties {W : Web} (hw : IsWeb W) : F_road_ties [webD W] = some (.tuple ((roadTies W).map tieD)) := by
  have hc := hw.count
  unfold F_road_ties
  refine eq_of_wp (wp_runP rfl ?_)
  unfold X_road_ties
  simp -implicitDefEqProofs [p_in_doors hw, p_out_doors hw]
  refine wp_forE (fun k ρ => ∃ (ds : List PD) (z5 z6 z7 z8 z9 z10 : Sl), ρ = [.dat (webD W), .dat (natsD (doorsOf W 0)), .dat (natsD (doorsOf W 1)), .dat (natD W.gives.length), .own (dats ds), z5, z6, z7, z8, z9, z10] ∧ ds = ((roadTies W).take k).map tieD) ⟨[], _, _, _, _, _, _, rfl, rfl⟩ ?_ ?_
  · rintro i hi ρ ⟨ds, z5, z6, z7, z8, z9, z10, rfl, hds⟩
    have dl : ds.length ≤ i := by rw [hds]; simp; omega
    unfold X_road_ties_b1
    have hl : i < (roadTies W).length := by unfold roadTies; simpa using hi
    have ht : (roadTies W)[i] = ⟨seatOf W 0 (W.roads[i], i), seatOf W 1 (W.roads[i], i), W.roads[i].r⟩ := by simp only [roadTies, List.getElem_map, List.getElem_zipIdx, Nat.zero_add]
    have fin : ((roadTies W).take (i + 1)).map tieD = ((roadTies W).take i).map tieD ++ [tieD (roadTies W)[i]] := by rw [List.take_succ_eq_append_getElem hl, List.map_append]; rfl
    cases hb : W.roads[i].b with
    | none =>
      have m0 := n_idx (door_in (s := 0) hi (by simpa [side] using hb))
      cases he : W.roads[i].e with
      | none =>
        have m1 := n_idx (door_in (s := 1) hi (by simpa [side] using he))
        simp -implicitDefEqProofs [hb, he, q_idx, m0, m1]
        refine ⟨by omega, ⟨_, _, _, _, _, _, _, rfl, ?_⟩⟩
        rw [fin, ht, hds]
        simp [tieD, seatOf, side, hb, he]
      | some t =>
        simp -implicitDefEqProofs [hb, he, q_idx, m0, endD]
        refine ⟨by omega, ⟨_, _, _, _, _, _, _, rfl, ?_⟩⟩
        rw [fin, ht, hds]
        simp [tieD, seatOf, side, hb, he]
    | some g =>
      cases he : W.roads[i].e with
      | none =>
        have m1 := n_idx (door_in (s := 1) hi (by simpa [side] using he))
        simp -implicitDefEqProofs [hb, he, q_idx, m1, endD]
        refine ⟨by omega, ⟨_, _, _, _, _, _, _, rfl, ?_⟩⟩
        rw [fin, ht, hds]
        simp [tieD, seatOf, side, hb, he]
      | some t =>
        simp -implicitDefEqProofs [hb, he, q_idx, endD]
        refine ⟨by omega, ⟨_, _, _, _, _, _, _, rfl, ?_⟩⟩
        rw [fin, ht, hds]
        simp [tieD, seatOf, side, hb, he]
  · rintro ρ ⟨ds, z5, z6, z7, z8, z9, z10, rfl, rfl⟩
    simp -implicitDefEqProofs
    rw [List.take_of_length_le (by unfold roadTies; simp)]
theorem p_house_ties {W : Web} (hw : IsWeb W) : F_house_ties [webD W] = some (.tuple ((houseTies W).map tieD)) := by
  have hh := hw.houses
  unfold F_house_ties
  refine eq_of_wp (wp_runP rfl ?_)
  unfold X_house_ties
  simp -implicitDefEqProofs [p_big_of hw]
  refine ⟨in62_nat (by omega), ?_⟩
  refine wp_forR (fun k ρ => ∃ (ds : List PD) (z3 : Sl), ρ = [.dat (webD W), .dat (.int (bigOf W)), .own (dats ds), z3] ∧ ds = ((List.range k).flatMap fun h => [(⟨h, h, bigOf W⟩ : Tie), ⟨h, h, bigOf W⟩]).map tieD ∧ ds.length = 2 * k) ⟨[], _, rfl, rfl, rfl⟩ ?_ ?_
  · rintro i hi ρ ⟨ds, z3, rfl, hds, hl⟩
    unfold X_house_ties_b1
    simp -implicitDefEqProofs
    refine ⟨by omega, ⟨_, _, rfl, ?_, by simp; omega⟩⟩
    rw [List.range_succ, List.flatMap_append, List.map_append, ← hds]
    simp [tieD]
  · rintro ρ ⟨ds, z3, rfl, rfl, hl⟩
    simp -implicitDefEqProofs
    rfl
theorem house_len {W : Web} : (houseTies W).length = 2 * W.gives.length := by
  unfold houseTies
  generalize W.gives.length = n
  induction n with
  | zero => rfl
  | succ n ih => rw [List.range_succ, List.flatMap_append, List.length_append, ih]; simp; omega
theorem p_fair_of {W : Web} (hw : IsWeb W) : F_fair_of [webD W] = some (fairD (fairOf W)) := by
  unfold F_fair_of
  refine eq_of_wp (wp_runP rfl ?_)
  unfold X_fair_of
  simp -implicitDefEqProofs [p_road_ties hw, p_house_ties hw, p_givers_of hw, p_takers_of hw]
  have hc := hw.count
  have hh := hw.houses
  refine ⟨by rw [house_len]; unfold roadTies; simp; omega, ?_⟩
  unfold fairD fairOf
  simp
end Fn

namespace Fn
open PySem PySem.Spec PyProof.Rows L2 Uv
/-! the fair of a web is a fair -/
theorem mem_atT {ts : List Tie} {s k j : Nat} : j ∈ atT ts s k ↔ ∃ x, ts[j]? = some x ∧ tside s x = k := by
  unfold atT
  constructor
  · intro h
    obtain ⟨⟨x, i⟩, h1, rfl⟩ := List.mem_map.mp h
    obtain ⟨h2, h3⟩ := List.mem_filter.mp h1
    exact ⟨x, List.mem_zipIdx_iff_getElem?.mp h2, by simpa using h3⟩
  · rintro ⟨x, h1, h2⟩
    exact List.mem_map.mpr ⟨(x, j), List.mem_filter.mpr ⟨List.mem_zipIdx_iff_getElem?.mpr h1, by simpa using h2⟩, rfl⟩
theorem mem_atR {rs : List Road} {s h j : Nat} : j ∈ atR rs s h ↔ ∃ x, rs[j]? = some x ∧ side s x = some h := by
  unfold atR
  constructor
  · intro h
    obtain ⟨⟨x, i⟩, h1, rfl⟩ := List.mem_map.mp h
    obtain ⟨h2, h3⟩ := List.mem_filter.mp h1
    exact ⟨x, List.mem_zipIdx_iff_getElem?.mp h2, by simpa using h3⟩
  · rintro ⟨x, h1, h2⟩
    exact List.mem_map.mpr ⟨(x, j), List.mem_filter.mpr ⟨List.mem_zipIdx_iff_getElem?.mpr h1, by simpa using h2⟩, rfl⟩
theorem mem_doors {W : Web} {s j : Nat} : j ∈ doorsOf W s ↔ ∃ x, W.roads[j]? = some x ∧ side s x = none := by
  unfold doorsOf doorP
  constructor
  · intro h
    obtain ⟨⟨x, i⟩, h1, rfl⟩ := List.mem_map.mp h
    obtain ⟨h2, h3⟩ := List.mem_filter.mp h1
    exact ⟨x, List.mem_zipIdx_iff_getElem?.mp h2, by simpa using h3⟩
  · rintro ⟨x, h1, h2⟩
    exact List.mem_map.mpr ⟨(x, j), List.mem_filter.mpr ⟨List.mem_zipIdx_iff_getElem?.mpr h1, by simp [h2]⟩, rfl⟩
theorem nodup_of_lt {l : List Nat} (h : l.Pairwise (· < ·)) : l.Nodup := h.imp fun h => by omega
theorem doors_sorted {W : Web} {s : Nat} : (doorsOf W s).Pairwise (· < ·) := (zip_sorted W.roads 0 _).1
theorem house_get {W : Web} {i : Nat} (h : i < 2 * W.gives.length) : (houseTies W)[i]? = some ⟨i / 2, i / 2, bigOf W⟩ := by
  unfold houseTies
  revert h
  generalize W.gives.length = n
  intro h
  have len : ∀ n : Nat, ((List.range n).flatMap fun h => [(⟨h, h, bigOf W⟩ : Tie), ⟨h, h, bigOf W⟩]).length = 2 * n := fun n => by
    induction n with
    | zero => rfl
    | succ n ih => rw [List.range_succ, List.flatMap_append, List.length_append, ih]; simp; omega
  induction n with
  | zero => omega
  | succ n ih =>
    rw [List.range_succ, List.flatMap_append]
    by_cases c : i < 2 * n
    · rw [List.getElem?_append_left (by rw [len]; exact c)]
      exact ih c
    · rw [List.getElem?_append_right (by rw [len]; omega), len]
      have : i = 2 * n ∨ i = 2 * n + 1 := by omega
      rcases this with rfl | rfl
      · simp
      · rw [show 2 * n + 1 - 2 * n = 1 by omega, show (2 * n + 1) / 2 = n by omega]
        simp
theorem tie_road {W : Web} {j : Nat} {x : Road} (h : W.roads[j]? = some x) : (fairOf W).ties[j]? = some ⟨seatOf W 0 (x, j), seatOf W 1 (x, j), x.r⟩ := by
  have hj : j < W.roads.length := (List.getElem?_eq_some_iff.mp h).1
  show (roadTies W ++ houseTies W)[j]? = _
  rw [List.getElem?_append_left (by unfold roadTies; simpa using hj)]
  unfold roadTies
  rw [List.getElem?_map, List.getElem?_zipIdx, h]
  simp
theorem tie_house {W : Web} {j : Nat} (h1 : W.roads.length ≤ j) (h2 : j < W.roads.length + 2 * W.gives.length) : (fairOf W).ties[j]? = some ⟨(j - W.roads.length) / 2, (j - W.roads.length) / 2, bigOf W⟩ := by
  have e : (roadTies W).length = W.roads.length := by unfold roadTies; simp
  show (roadTies W ++ houseTies W)[j]? = _
  rw [List.getElem?_append_right (by rw [e]; exact h1), e]
  exact house_get (by omega)
theorem ties_len {W : Web} : (fairOf W).ties.length = W.roads.length + 2 * W.gives.length := by
  show (roadTies W ++ houseTies W).length = _
  rw [List.length_append, house_len]
  unfold roadTies
  simp
theorem tside_seat {W : Web} {s : Nat} {p : Road × Nat} {r : Int} (hs : s < 2) : tside s ⟨seatOf W 0 p, seatOf W 1 p, r⟩ = seatOf W s p := by
  have : s = 0 ∨ s = 1 := by omega
  rcases this with rfl | rfl <;> rfl
theorem tside_same {s k : Nat} {r : Int} : tside s ⟨k, k, r⟩ = k := by unfold tside; split <;> rfl
/-- which ties a seat has -/
theorem mem_ties {W : Web} {s k j : Nat} (hs : s < 2) : j ∈ atT (fairOf W).ties s k ↔ (∃ x, W.roads[j]? = some x ∧ seatOf W s (x, j) = k) ∨ (W.roads.length ≤ j ∧ j < W.roads.length + 2 * W.gives.length ∧ (j - W.roads.length) / 2 = k) := by
  rw [mem_atT]
  constructor
  · rintro ⟨x, h1, h2⟩
    have hj := (List.getElem?_eq_some_iff.mp h1).1
    rw [ties_len] at hj
    by_cases c : j < W.roads.length
    · rw [tie_road (List.getElem?_eq_getElem c)] at h1
      cases h1
      rw [tside_seat hs] at h2
      exact .inl ⟨_, List.getElem?_eq_getElem c, h2⟩
    · rw [tie_house (by omega) hj] at h1
      cases h1
      rw [tside_same] at h2
      exact .inr ⟨by omega, hj, h2⟩
  · rintro (⟨x, h1, h2⟩ | ⟨h1, h2, h3⟩)
    · exact ⟨_, tie_road h1, by rw [tside_seat hs]; exact h2⟩
    · exact ⟨_, tie_house h1 h2, by rw [tside_same]; exact h3⟩
theorem sum_le {l : List Int} {m : Int} (h : ∀ x ∈ l, x ≤ m) : l.sum ≤ l.length * m := by
  induction l with
  | nil => simp
  | cons x xs ih =>
    have h1 := h x (List.mem_cons_self ..)
    have h2 := ih fun y hy => h y (List.mem_cons_of_mem _ hy)
    rw [List.sum_cons, List.length_cons, Int.natCast_add, Int.add_mul]
    omega
theorem sum_nn {l : List Int} (h : ∀ x ∈ l, 0 ≤ x) : 0 ≤ l.sum := by
  induction l with
  | nil => simp
  | cons x xs ih =>
    have h1 := h x (List.mem_cons_self ..)
    have h2 := ih fun y hy => h y (List.mem_cons_of_mem _ hy)
    rw [List.sum_cons]
    omega
theorem big_ok {W : Web} (hw : IsWeb W) : 1 ≤ bigOf W ∧ bigOf W ≤ 20000000000001 := by
  have hc := hw.count
  have h1 : 0 ≤ (W.roads.map (·.r)).sum := sum_nn fun x hx => by
    obtain ⟨y, hy, rfl⟩ := List.mem_map.mp hx
    exact (hw.road y hy).2.2.2.1
  have h2 : (W.roads.map (·.r)).sum ≤ (W.roads.map (·.r)).length * 1000000000000 := sum_le fun x hx => by
    obtain ⟨y, hy, rfl⟩ := List.mem_map.mp hx
    exact (hw.road y hy).2.2.2.2
  rw [List.length_map] at h2
  unfold bigOf
  omega
/-- the order of a house's seat -/
theorem seat_perm {W : Web} (hw : IsWeb W) {s k : Nat} {l : List Nat} {a b : Nat} (hs : s < 2) (hk : k < W.gives.length) (hp : l.Perm (atR W.roads s k)) (hab : (a = lyingOf W k ∧ b = lyingOf W k + 1) ∨ (a = lyingOf W k + 1 ∧ b = lyingOf W k)) : (a :: (l ++ [b])).Perm (atT (fairOf W).ties s k) := by
  have ht := nodup_of_lt (atT_sorted (fairOf W).ties s k)
  have hl : ∀ j ∈ l, j < W.roads.length := fun j hj => atR_lt (hp.mem_iff.mp hj)
  have nl : l.Nodup := hp.nodup_iff.mpr (nodup_of_lt (atR_sorted _ _ _))
  unfold lyingOf at hab
  have na : (a :: (l ++ [b])).Nodup := by
    rw [List.nodup_cons, List.nodup_append]
    refine ⟨fun h => ?_, nl, by simp, fun x hx y hy => ?_⟩
    · rcases List.mem_append.mp h with h | h
      · have := hl a h; omega
      · have := List.mem_singleton.mp h; omega
    · have := hl x hx
      have := List.mem_singleton.mp hy
      omega
  refine (List.perm_ext_iff_of_nodup na ht).mpr fun j => ?_
  rw [mem_ties hs, List.mem_cons, List.mem_append, List.mem_singleton, hp.mem_iff, mem_atR]
  constructor
  · rintro (h | ⟨x, h1, h2⟩ | h)
    · right; omega
    · left; exact ⟨x, h1, by unfold seatOf; rw [show side s (x, j).1 = some k from h2]⟩
    · right; omega
  · rintro (⟨x, h1, h2⟩ | ⟨h1, h2, h3⟩)
    · right; left
      refine ⟨x, h1, ?_⟩
      unfold seatOf at h2
      cases e : side s (x, j).1 with
      | none => rw [e] at h2; simp at h2; omega
      | some g => rw [e] at h2; simp at h2; rw [← h2]
    · omega
theorem idx_of {l : List Nat} (nd : l.Nodup) {d : Nat} (h : d < l.length) : l.idxOf l[d] = d := by
  induction l generalizing d with
  | nil => simp at h
  | cons x xs ih =>
    rw [List.nodup_cons] at nd
    cases d with
    | zero => simp
    | succ d =>
      have h' : d < xs.length := by simpa using h
      have ne : x ≠ xs[d] := fun e => nd.1 (by rw [e]; exact List.getElem_mem h')
      rw [List.getElem_cons_succ, List.idxOf_cons]
      rw [ih nd.2 h', show (x == xs[d]) = false by simpa using ne]
      rfl
theorem door_perm {W : Web} (hw : IsWeb W) {s d : Nat} {p : Road × Nat} (hs : s < 2) (hd : (doorP W s)[d]? = some p) : [p.2].Perm (atT (fairOf W).ties s (W.gives.length + d)) := by
  have ht := nodup_of_lt (atT_sorted (fairOf W).ties s (W.gives.length + d))
  have nd : (doorsOf W s).Nodup := nodup_of_lt doors_sorted
  obtain ⟨hk, h1, h2⟩ := doorP_mem (List.mem_of_getElem? hd)
  have hl : d < (doorsOf W s).length := by unfold doorsOf; simpa using (List.getElem?_eq_some_iff.mp hd).1
  have hv : (doorsOf W s)[d] = p.2 := by
    have : (doorsOf W s)[d]? = some p.2 := by unfold doorsOf; rw [List.getElem?_map, hd]; rfl
    exact (List.getElem?_eq_some_iff.mp this).2
  refine (List.perm_ext_iff_of_nodup (by simp) ht).mpr fun j => ?_
  rw [mem_ties hs, List.mem_singleton]
  constructor
  · rintro rfl
    left
    refine ⟨p.1, by rw [List.getElem?_eq_getElem hk, h1], ?_⟩
    unfold seatOf
    rw [h2]
    show W.gives.length + (doorsOf W s).idxOf p.2 = _
    rw [← hv, idx_of nd hl]
  · rintro (⟨x, g1, g2⟩ | ⟨g1, g2, g3⟩)
    · unfold seatOf at g2
      cases e : side s (x, j).1 with
      | none =>
        rw [e] at g2
        have g3 : (doorsOf W s).idxOf j = d := by have : W.gives.length + (doorsOf W s).idxOf j = W.gives.length + d := g2; omega
        have hm : j ∈ doorsOf W s := mem_doors.mpr ⟨x, g1, e⟩
        have := List.getElem_idxOf (List.idxOf_lt_length_iff.mpr hm)
        rw [← this, ← hv]
        congr 1
      | some g =>
        rw [e] at g2
        have g2 : g = W.gives.length + d := g2
        have hx := hw.road x (List.mem_of_getElem? g1)
        have : g < W.gives.length := by
          have : s = 0 ∨ s = 1 := by omega
          rcases this with rfl | rfl
          · exact hx.2.1 g (by simpa [side] using e)
          · exact hx.2.2.1 g (by simpa [side] using e)
        omega
    · omega
theorem seat_lt {W : Web} (hw : IsWeb W) {s j : Nat} {x : Road} (hs : s < 2) (h : W.roads[j]? = some x) : seatOf W s (x, j) < W.gives.length + (doorP W s).length := by
  have hx := hw.road x (List.mem_of_getElem? h)
  unfold seatOf
  cases e : side s (x, j).1 with
  | none =>
    have hm : j ∈ doorsOf W s := mem_doors.mpr ⟨x, h, e⟩
    have := List.idxOf_lt_length_iff.mpr hm
    have e2 : (doorsOf W s).length = (doorP W s).length := by unfold doorsOf; simp
    show W.gives.length + (doorsOf W s).idxOf j < _
    omega
  | some g =>
    show g < _
    have : s = 0 ∨ s = 1 := by omega
    rcases this with rfl | rfl
    · have := hx.2.1 g (by simpa [side] using e); omega
    · have := hx.2.2.1 g (by simpa [side] using e); omega
theorem fair_ok {W : Web} (hw : IsWeb W) : IsFair (fairOf W) := by
  have hc := hw.count
  have hh := hw.houses
  have hm := hw.same
  have hb := big_ok hw
  have d0 := doors_len (W := W) (s := 0)
  have d1 := doors_len (W := W) (s := 1)
  have lg : (fairOf W).givers.length = W.gives.length + (doorP W 0).length := by show (giversOf W).length = _; unfold giversOf doorSeats; simp
  have lt : (fairOf W).takers.length = W.gives.length + (doorP W 1).length := by show (takersOf W).length = _; unfold takersOf doorSeats; simp [hm]
  refine ⟨by omega, by omega, by rw [ties_len]; omega, fun x hx => ?_, fun k x hk => ?_, fun k x hk => ?_⟩
  · obtain ⟨j, hj⟩ := List.getElem?_of_mem hx
    have hl := (List.getElem?_eq_some_iff.mp hj).1
    rw [ties_len] at hl
    rw [lg, lt]
    by_cases c : j < W.roads.length
    · have hr := List.getElem?_eq_getElem c
      rw [tie_road hr] at hj
      cases hj
      have ho := hw.road _ (List.mem_of_getElem? hr)
      exact ⟨seat_lt hw (by omega) hr, seat_lt hw (by omega) hr, ho.2.2.2.1, by have := ho.2.2.2.2; show W.roads[j].r ≤ _; omega⟩
    · rw [tie_house (by omega) hl] at hj
      cases hj
      exact ⟨by show (j - W.roads.length) / 2 < _; omega, by show (j - W.roads.length) / 2 < _; omega, by show 0 ≤ bigOf W; omega, by show bigOf W ≤ _; omega⟩
  · have hk : (giversOf W)[k]? = some x := hk
    unfold giversOf at hk
    by_cases c : k < W.gives.length
    · rw [List.getElem?_append_left (by simpa using c), List.getElem?_map, List.getElem?_zipIdx, List.getElem?_eq_getElem c] at hk
      simp at hk
      subst hk
      exact ⟨by show 0 ≤ bigOf W; omega, by show bigOf W ≤ _; omega, seat_perm hw (by omega) c (hw.give k _ (List.getElem?_eq_getElem c)) (.inl ⟨rfl, rfl⟩)⟩
    · rw [List.getElem?_append_right (by simp; omega)] at hk
      simp only [List.length_map, List.length_zipIdx] at hk
      unfold doorSeats at hk
      rw [List.getElem?_map] at hk
      cases e : (doorP W 0)[k - W.gives.length]? with
      | none => rw [e] at hk; cases hk
      | some p =>
        rw [e] at hk
        cases hk
        obtain ⟨g1, g2, g3⟩ := doorP_mem (List.mem_of_getElem? e)
        have ho := hw.road _ (List.getElem_mem g1)
        rw [g2] at ho
        have pp := door_perm hw (by omega) e
        rw [show W.gives.length + (k - W.gives.length) = k by omega] at pp
        exact ⟨ho.2.2.2.1, by have := ho.2.2.2.2; show p.1.r ≤ _; omega, pp⟩
  · have hk : (takersOf W)[k]? = some x := hk
    unfold takersOf at hk
    by_cases c : k < W.takes.length
    · rw [List.getElem?_append_left (by simpa using c), List.getElem?_map, List.getElem?_zipIdx, List.getElem?_eq_getElem c] at hk
      simp at hk
      subst hk
      exact ⟨by show 0 ≤ bigOf W; omega, by show bigOf W ≤ _; omega, seat_perm hw (by omega) (by omega) (hw.take k _ (List.getElem?_eq_getElem c)) (.inr ⟨rfl, rfl⟩)⟩
    · rw [List.getElem?_append_right (by simp; omega)] at hk
      simp only [List.length_map, List.length_zipIdx] at hk
      unfold doorSeats at hk
      rw [List.getElem?_map] at hk
      cases e : (doorP W 1)[k - W.takes.length]? with
      | none => rw [e] at hk; cases hk
      | some p =>
        rw [e] at hk
        cases hk
        obtain ⟨g1, g2, g3⟩ := doorP_mem (List.mem_of_getElem? e)
        have ho := hw.road _ (List.getElem_mem g1)
        rw [g2] at ho
        have pp := door_perm hw (by omega) e
        rw [show W.gives.length + (k - W.takes.length) = k by omega] at pp
        exact ⟨ho.2.2.2.1, by have := ho.2.2.2.2; show p.1.r ≤ _; omega, pp⟩
end Fn

namespace Fn
open PySem PySem.Spec PyProof.Rows L2 Uv
/-! family D: the deck and what is drawn of it -/
def DkD (b : Nat) (cs : List Cel) : Prop := ∃ (cells : List Int) (n : Int), cs = [.sub (cells.map PyData.int), .dat (.int n)] ∧ cells.length ≤ 63 ∧ 0 ≤ n ∧ n ≤ b
theorem DkD.mono {b c : Nat} {cs : List Cel} (h : DkD b cs) (hb : b ≤ c) : DkD c cs := by
  obtain ⟨cells, n, e, h1, h2, h3⟩ := h
  exact ⟨cells, n, e, h1, h2, by omega⟩
theorem d_draw {b : Nat} {cs : List Cel} {m : Int} {Q : PD × List Cel → Prop} (h : DkD b cs) (hb : b ≤ 2 ^ 40) (hm : 0 < m) (hm2 : m < 2 ^ 64) (hq : ∀ (r : Nat) cs', (r : Int) < m → DkD (b + 1) cs' → Q (natD r, cs')) : wp (F__law_draw_b cs [.int m]) (tag Q) := by
  obtain ⟨cells, n, rfl, hl, h0, hn⟩ := h
  have base : ∀ c : Int, In63 (c % 2147483587 + 7919 * (n + 1) + 1) := fun c => ⟨by omega, by omega⟩
  have b0 : In63 (7919 * (n + 1) + 1) := ⟨by omega, by omega⟩
  have fin : ∀ (x : Int) (cs' : List Int) , cs'.length ≤ 63 → Q (.int (x % m), [.sub (cs'.map PyData.int), .dat (.int (n + 1))]) := fun x cs' hl' => by
    obtain ⟨j, hj, ej⟩ := emod_nat (a := x) hm
    rw [ej]
    exact hq j _ hj ⟨cs', n + 1, rfl, hl', by omega, by omega⟩
  unfold F__law_draw_b
  refine wp_runW rfl ?_
  unfold X__law_draw_b
  simp -implicitDefEqProofs
  refine wp_altd (fun hp => ?_) (fun hp => ?_)
  · obtain ⟨j, hj, ej⟩ := emod_nat (a := n + 1) (show (0 : Int) < (cells.length : Int) by omega)
    have hj : j < cells.length := by omega
    simp -implicitDefEqProofs [hp, ej, atI_map hj]
    refine wp_altd (fun hg => ?_) (fun hg => ?_)
    · simp -implicitDefEqProofs [hm, ixN_nat' hj]
      refine ⟨⟨hm, hm2⟩, ?_⟩
      rw [← List.map_set]
      exact fin _ _ (by rw [List.length_set]; exact hl)
    · simp -implicitDefEqProofs [hm, base]
      exact fin _ _ hl
  · simp -implicitDefEqProofs [hm, b0]
    exact fin _ _ hl
theorem ne_nil {l : List Nat} : neP (.list (l.map natD)) (.list []) = some (.bool (!l.isEmpty)) := by
  have e : l.map natD = (l.map fun (n : Nat) => (n : Int)).map PyData.int := by rw [List.map_map]; rfl
  unfold neP
  rw [if_pos ⟨by rw [e]; exact PySem.W.shaped_ints _, rfl⟩]
  cases l <;> rfl
theorem d_shuffled {b : Nat} {cs : List Cel} {ns : List Nat} {Q : PD × List Cel → Prop} (h : DkD b cs) (hb : b + ns.length ≤ 2 ^ 40) (hl : ns.length ≤ 1000) (hq : ∀ (es : List Nat) cs', es.Perm ns → DkD (b + ns.length) cs' → Q (natsD es, cs')) : wp (F__law_shuffled cs [.list (ns.map natD)]) (tag Q) := by
  unfold F__law_shuffled
  refine wp_runW rfl ?_
  unfold X__law_shuffled
  simp -implicitDefEqProofs
  refine wp_while (fun k ρ => ∃ (cs : List Cel) (left found : List Nat), ρ = [.own cs, .dat (.list (ns.map natD)), .own (dats (left.map natD)), .own (dats (found.map natD))] ∧ left.length = k ∧ (found ++ left).Perm ns ∧ DkD (b + (ns.length - k)) cs) (@fuel_lt kk0 _ (show ns.length < 100000 by omega)) ⟨cs, ns, [], rfl, rfl, .refl _, by simpa using h⟩ ?_
  rintro k ρ ⟨cs, left, found, rfl, e2, p, d⟩
  have ll := p.length_eq
  rw [List.length_append] at ll
  simp -implicitDefEqProofs [ne_nil]
  refine ⟨fun z => ?_, fun z => ?_⟩
  · subst z
    exact hq _ _ (by simpa using p) (by simpa [← e2] using d)
  · have : left.length ≠ 0 := fun z' => z (List.length_eq_zero_iff.mp z')
    unfold X__law_shuffled_b1
    simp -implicitDefEqProofs
    refine d_draw d (by omega) (by omega) (by omega) fun r cs' hr d' => ?_
    have hr : r < left.length := by omega
    simp -implicitDefEqProofs [ixN_nat' hr, datAt_map hr, erase_map]
    refine ⟨in63e_nat (by omega), by omega, ⟨k - 1, by omega, cs', left.eraseIdx r, found ++ [left[r]], by simp, ?_, ?_, d'.mono (by omega)⟩⟩
    · rw [List.length_eraseIdx, if_pos hr]; omega
    · rw [List.append_assoc]
      exact (List.Perm.append_left found (erase_perm hr)).trans p
theorem d_ends {b m : Nat} {cs : List Cel} {Q : PD × List Cel → Prop} (h : DkD b cs) (hb : b + 3 ≤ 2 ^ 40) (h1 : 1 ≤ m) (h2 : m ≤ 8) (hq : ∀ (x y : Option Nat) cs', x ≠ y → (∀ k, x = some k → k < m) → (∀ k, y = some k → k < m) → DkD (b + 3) cs' → Q (.tuple [endD x, endD y], cs')) : wp (F__law_ends_c cs [natD m]) (tag Q) := by
  unfold F__law_ends_c
  refine wp_runW rfl ?_
  unfold X__law_ends_c
  simp -implicitDefEqProofs
  refine d_draw h (by omega) (by omega) (by omega) fun r1 cs1 a1 d1 => ?_
  simp -implicitDefEqProofs
  refine d_draw d1 (by omega) (by omega) (by omega) fun r2 cs2 a2 d2 => ?_
  simp -implicitDefEqProofs
  refine wp_alt (fun c => ?_) (fun c => ?_)
  · simp -implicitDefEqProofs
    exact hq none (some r2) cs2 (by simp) (by simp) (by simp; omega) (d2.mono (by omega))
  · simp at c
    simp -implicitDefEqProofs
    refine wp_alt (fun c2 => ?_) (fun c2 => ?_)
    · simp -implicitDefEqProofs
      exact hq (some r2) none cs2 (by simp) (by simp; omega) (by simp) (d2.mono (by omega))
    · simp at c2
      simp -implicitDefEqProofs
      refine d_draw d2 (by omega) (by omega) (by omega) fun r3 cs3 a3 d3 => ?_
      simp -implicitDefEqProofs
      refine ⟨by omega, ?_⟩
      have em : ((r2 : Int) + 1 + r3) % (m : Int) = (((r2 + 1 + r3) % m : Nat) : Int) := by rw [Int.natCast_emod]; congr 1
      rw [em]
      refine hq (some r2) (some ((r2 + 1 + r3) % m)) cs3 ?_ (by simp; omega) ?_ d3
      · intro z
        have z : r2 = (r2 + 1 + r3) % m := Option.some.inj z
        by_cases c5 : r2 + 1 + r3 < m
        · rw [Nat.mod_eq_of_lt c5] at z; omega
        · rw [Nat.mod_eq_sub_mod (by omega), Nat.mod_eq_of_lt (by omega)] at z; omega
      · intro k hk
        cases hk
        exact Nat.mod_lt _ (by omega)
end Fn

namespace Fn
open PySem PySem.Spec PyProof.Rows L2 Uv
theorem d_room {b : Nat} {cs : List Cel} {Q : PD × List Cel → Prop} (h : DkD b cs) (hb : b + 5 ≤ 2 ^ 40) (hq : ∀ (r : Int) cs', 0 ≤ r → r ≤ 1000000000000 → DkD (b + 5) cs' → Q (.int r, cs')) : wp (F__law_room_d cs []) (tag Q) := by
  unfold F__law_room_d
  refine wp_runW rfl ?_
  unfold X__law_room_d
  simp -implicitDefEqProofs
  refine d_draw h (by omega) (by omega) (by omega) fun r1 cs1 a1 d1 => ?_
  simp -implicitDefEqProofs
  refine d_draw d1 (by omega) (by omega) (by omega) fun r2 cs2 a2 d2 => ?_
  simp -implicitDefEqProofs
  refine d_draw d2 (by omega) (by omega) (by omega) fun r3 cs3 a3 d3 => ?_
  simp -implicitDefEqProofs
  refine d_draw d3 (by omega) (by omega) (by omega) fun r4 cs4 a4 d4 => ?_
  simp -implicitDefEqProofs
  refine d_draw d4 (by omega) (by omega) (by omega) fun r5 cs5 a5 d5 => ?_
  simp -implicitDefEqProofs
  refine wp_pick (by simp; omega) ?_
  simp -implicitDefEqProofs
  refine ⟨?_, ?_, ?_, ?_, ?_, ?_⟩ <;> exact hq _ _ (by omega) (by omega) d5
theorem eq_end {o : Option Nat} {h : Nat} : eqP (endD o) (natD h) = some (.bool (o == some h)) := by
  cases o with
  | none => rfl
  | some n => simp [endD]; exact Bool.eq_iff_iff.mpr (by simp; omega)
theorem ix_side {x : Road} {s : Nat} (hs : s < 2) : ixP (roadD x) (natD s) = some (endD (side s x)) := by
  have : s = 0 ∨ s = 1 := by omega
  rcases this with rfl | rfl <;> rfl
theorem d_orders {b m s : Nat} {cs : List Cel} {rs : List Road} {os : List Cel} {y5 y6 y7 y8 : Sl} {Q : Out → Prop} (h : DkD b cs) (hb : b + 8 * rs.length ≤ 2 ^ 40) (hm : m ≤ 8) (hr : rs.length ≤ 20) (hs : s < 2) (ho : os.length = 2)
    (hq : ∀ (gs : List (List Nat)) cs' (z5 z6 z7 z8 : Sl), gs.length = m → (∀ (h : Nat) (l : List Nat), gs[h]? = some l → l.Perm (atR rs s h)) → DkD (b + 8 * rs.length) cs' → Q (.nxt [.own cs', .dat (natD m), .dat (.list (rs.map roadD)), .own (os.set s (.sub (gs.map natsD))), .dat (natD s), z5, z6, z7, z8])) :
    wp (X__law_ordered_b2 [.own cs, .dat (natD m), .dat (.list (rs.map roadD)), .own (os.set s (.sub [])), .dat (natD s), y5, y6, y7, y8]) (tag Q) := by
  unfold X__law_ordered_b2
  simp -implicitDefEqProofs
  refine ⟨in62_nat (by omega), ?_⟩
  refine wp_forR (fun k ρ => ∃ (gs : List (List Nat)) (cs' : List Cel) (z5 z6 z7 z8 : Sl), ρ = [.own cs', .dat (natD m), .dat (.list (rs.map roadD)), .own (os.set s (.sub (gs.map natsD))), .dat (natD s), z5, z6, z7, z8] ∧ gs.length = k ∧ (∀ (h : Nat) (l : List Nat), gs[h]? = some l → l.Perm (atR rs s h)) ∧ DkD (b + rs.length * k) cs') ⟨[], cs, _, _, _, _, rfl, rfl, by simp, by simpa using h⟩ ?_ ?_
  · rintro i hi ρ ⟨gs, cs', z5, z6, z7, z8, rfl, hl, hp, d⟩
    unfold X__law_ordered_b1
    simp -implicitDefEqProofs
    refine ⟨by omega, ?_⟩
    refine wp_lcE (fun p => side s p.1 == some i) (fun p => natD p.2) (fun j hj => ?_) ?_
    · simp -implicitDefEqProofs [ix_side hs, eq_end]
    · have le : ((rs.zipIdx.filter fun p => side s p.1 == some i).map fun p => natD p.2) = (atR rs s i).map natD := by unfold atR; rw [List.map_map]; rfl
      have ll : (atR rs s i).length ≤ rs.length := by
        unfold atR
        rw [List.length_map]
        exact Nat.le_trans (List.length_filter_le ..) (by simp)
      rw [le]
      simp -implicitDefEqProofs [ho, ixN_nat' hs, subAt_set (show s < os.length by omega)]
      have hk : rs.length * i + rs.length ≤ 8 * rs.length := by
        have : rs.length * (i + 1) ≤ rs.length * 8 := Nat.mul_le_mul_left _ (by omega)
        rw [Nat.mul_add] at this
        omega
      refine d_shuffled d (by omega) (by omega) fun es cs2 pe d2 => ?_
      simp -implicitDefEqProofs
      refine ⟨by omega, ⟨gs ++ [es], cs2, _, _, _, _, by rw [List.map_append]; rfl, by simp [hl], ?_, d2.mono (by rw [Nat.mul_add]; omega)⟩⟩
      intro h l hh
      by_cases c : h < gs.length
      · rw [List.getElem?_append_left c] at hh
        exact hp h l hh
      · rw [List.getElem?_append_right (by omega)] at hh
        have : h = i := by
          cases e : h - gs.length with
          | zero => omega
          | succ n => rw [e] at hh; simp at hh
        subst this
        simp -implicitDefEqProofs [hl] at hh
        subst hh
        exact pe
  · rintro ρ ⟨gs, cs', z5, z6, z7, z8, rfl, hl, hp, d⟩
    exact hq gs cs' _ _ _ _ hl hp (d.mono (by have := Nat.mul_le_mul_left rs.length hm; omega))
theorem d_ordered {b m : Nat} {cs : List Cel} {rs : List Road} {Q : PD × List Cel → Prop} (h : DkD b cs) (hb : b + 16 * rs.length ≤ 2 ^ 40) (hm : m ≤ 8) (hr : rs.length ≤ 20)
    (hq : ∀ (gs ts : List (List Nat)) cs', gs.length = m → ts.length = m → (∀ (h : Nat) (l : List Nat), gs[h]? = some l → l.Perm (atR rs 0 h)) → (∀ (h : Nat) (l : List Nat), ts[h]? = some l → l.Perm (atR rs 1 h)) → DkD (b + 16 * rs.length) cs' → Q (webD ⟨rs, gs, ts⟩, cs')) : wp (F__law_ordered cs [natD m, .list (rs.map roadD)]) (tag Q) := by
  unfold F__law_ordered
  refine wp_runW rfl ?_
  unfold X__law_ordered
  simp -implicitDefEqProofs [List.range_succ, wp_for_cons, wp_for_nil]
  refine d_orders (s := 0) (os := [.sub [], .sub []]) h (by omega) hm hr (by omega) rfl fun gs cs1 z5 z6 z7 z8 hg pg d1 => ?_
  simp -implicitDefEqProofs [wp_for_cons, wp_for_nil]
  refine d_orders (s := 1) (os := [.sub (gs.map natsD), .sub []]) d1 (by omega) hm hr (by omega) rfl fun ts cs2 u5 u6 u7 u8 ht pt d2 => ?_
  simp -implicitDefEqProofs [wp_for_cons, wp_for_nil]
  exact hq gs ts cs2 hg ht pg pt (d2.mono (by omega))
end Fn

namespace Fn
open PySem PySem.Spec PyProof.Rows L2 Uv
/-- a road as data, by its ends and its room -/
theorem road_eq {x y : Option Nat} {r : Int} : PyData.tuple [endD x, endD y, .int r] = roadD ⟨x, y, r⟩ := rfl
theorem add_end {x y : Option Nat} {r : Int} : addP (.tuple [endD x, endD y]) (.tuple [.int r]) = some (roadD ⟨x, y, r⟩) := rfl
theorem web_of {rs : List Road} {gs ts : List (List Nat)} {m : Nat} (m1 : 1 ≤ m) (m8 : m ≤ 8) (r1 : 1 ≤ rs.length) (r20 : rs.length ≤ 20) (hr : ∀ x ∈ rs, OkRoad m x) (hg : gs.length = m) (ht : ts.length = m) (pg : ∀ (h : Nat) (l : List Nat), gs[h]? = some l → l.Perm (atR rs 0 h)) (pt : ∀ (h : Nat) (l : List Nat), ts[h]? = some l → l.Perm (atR rs 1 h)) : IsWeb ⟨rs, gs, ts⟩ :=
  ⟨⟨by show 1 ≤ gs.length; omega, by show gs.length ≤ 8; omega⟩, by show ts.length = gs.length; omega, ⟨r1, r20⟩, fun x hx => by show OkRoad gs.length x; rw [hg]; exact hr x hx, pg, pt⟩
/-- roads drawn one by one -/
theorem d_roads {b n m : Nat} {cs : List Cel} {e : XW} {ρ : Uv.Env} {k : Nat} {Q : List PD × Uv.Env → Prop} (c : Nat) (env : List Cel → Sl → Uv.Env) (hρ : ρ = env cs .un) (hcl : ∀ cs z, clearE (env cs z) [k] = env cs .un) (hg : ∀ cs x, gName' k x (env cs .un) = some (env cs (.dat x)))
    (h : DkD b cs) (he : ∀ (i : Nat) (cs : List Cel) (z : Sl) (Q : PD × Uv.Env → Prop), i < n → DkD (b + c * i) cs → (∀ x cs', OkRoad m x → DkD (b + c * (i + 1)) cs' → Q (roadD x, env cs' z)) → wp (e (env cs z)) (tag Q))
    (hq : ∀ (rs : List Road) cs' z, rs.length = n → (∀ x ∈ rs, OkRoad m x) → DkD (b + c * n) cs' → Q (rs.map roadD, env cs' z)) : wp (wlGo (gName' k) (wMT xYes) e [k] ((List.range n).map natD) ρ) (tag Q) := by
  subst hρ
  refine wp_wl (fun i ds ρ => ∃ (rs : List Road) (cs : List Cel) (z : Sl), ds = rs.map roadD ∧ rs.length = i ∧ (∀ x ∈ rs, OkRoad m x) ∧ ρ = env cs z ∧ DkD (b + c * i) cs) ⟨[], cs, .un, rfl, rfl, by simp, rfl, h⟩ ?_ ?_
  · rintro i hi ds ρ ⟨rs, cs, z, rfl, hl, ho, rfl, d⟩
    rw [hcl, hg]
    simp -implicitDefEqProofs
    refine he i cs _ _ (by simpa using hi) d fun x cs' ox d' => ?_
    refine ⟨⟨rs ++ [x], cs', _, by simp, by simp [hl], fun y hy => ?_, rfl, d'⟩⟩
    rcases List.mem_append.mp hy with h | h
    · exact ho y h
    · rw [List.mem_singleton.mp h]; exact ox
  · rintro ds ρ ⟨rs, cs, z, rfl, hl, ho, rfl, d⟩
    simp only [List.length_map, List.length_range] at hl d
    exact hq rs cs z hl ho d
theorem d_rounded {b : Nat} {cs : List Cel} {Q : PD × List Cel → Prop} (h : DkD b cs) (hb : b + 60 ≤ 2 ^ 40) (hq : ∀ W cs', IsWeb W → DkD (b + 60) cs' → Q (webD W, cs')) : wp (F__law_rounded cs []) (tag Q) := by
  unfold F__law_rounded
  refine wp_runW rfl ?_
  unfold X__law_rounded
  simp -implicitDefEqProofs
  refine wp_wl (fun i ds ρ => ∃ (rs : List Int) (cs : List Cel) (z : Sl), ds = rs.map PyData.int ∧ rs.length = i ∧ (∀ x ∈ rs, 0 ≤ x ∧ x ≤ 1000000000000) ∧ ρ = [.own cs, .un, .un, .un, .un, z] ∧ DkD (b + 5 * i) cs) ⟨[], cs, .un, rfl, rfl, by simp, rfl, h⟩ ?_ ?_
  · rintro i hi ds ρ ⟨rs, cs, z, rfl, hl, ho, rfl, d⟩
    have hi : i < 8 := by simpa using hi
    simp -implicitDefEqProofs
    refine d_room d (by omega) fun r cs' r0 r1 d' => ?_
    simp -implicitDefEqProofs
    refine ⟨⟨rs ++ [r], cs', _, by simp, by simp [hl], fun y hy => ?_, rfl, d'⟩⟩
    rcases List.mem_append.mp hy with h | h
    · exact ho y h
    · rw [List.mem_singleton.mp h]; exact ⟨r0, r1⟩
  · rintro ds ρ ⟨rs, cs, z, rfl, hl, ho, rfl, d⟩
    simp only [List.length_map, List.length_range] at hl d
    obtain ⟨a, b', c, e, f, g, h, i, rfl⟩ : ∃ a b c e f g h i, rs = [a, b, c, e, f, g, h, i] := by
      match rs, hl with
      | [a, b, c, e, f, g, h, i], _ => exact ⟨_, _, _, _, _, _, _, _, rfl⟩
    have d : DkD (b + 40) cs := d
    simp -implicitDefEqProofs [atI, ixN]
    refine d_shuffled (ns := [0, 1, 7]) d (by simp; omega) (by simp) fun g0 cs0 p0 d0 => ?_
    simp -implicitDefEqProofs
    refine d_shuffled (ns := [2, 3, 5]) d0 (by simp; omega) (by simp) fun g1 cs1 p1 d1 => ?_
    simp -implicitDefEqProofs
    refine d_shuffled (ns := [2, 3, 4]) d1 (by simp; omega) (by simp) fun t0 cs2 p2 d2 => ?_
    simp -implicitDefEqProofs
    refine d_shuffled (ns := [0, 1, 6]) d2 (by simp; omega) (by simp) fun t1 cs3 p3 d3 => ?_
    simp -implicitDefEqProofs
    refine hq ⟨[⟨some 0, some 1, a⟩, ⟨some 0, some 1, b'⟩, ⟨some 1, some 0, c⟩, ⟨some 1, some 0, e⟩, ⟨none, some 0, f⟩, ⟨some 1, none, g⟩, ⟨none, some 1, h⟩, ⟨some 0, none, i⟩], [g0, g1], [t0, t1]⟩ cs3 (web_of (m := 2) (by omega) (by omega) (by simp) (by simp) ?_ rfl rfl ?_ ?_) (d3.mono (by simp))
    · simp at ho
      simp [OkRoad]
      omega
    · intro h l hh
      match h, hh with
      | 0, hh => simp at hh; subst hh; exact p0
      | 1, hh => simp at hh; subst hh; exact p1
    · intro h l hh
      match h, hh with
      | 0, hh => simp at hh; subst hh; exact p2
      | 1, hh => simp at hh; subst hh; exact p3
theorem d_far {b : Nat} {cs : List Cel} {Q : PD × List Cel → Prop} (h : DkD b cs) (hb : b + 600 ≤ 2 ^ 40) (hq : ∀ W cs', IsWeb W → DkD (b + 600) cs' → Q (webD W, cs')) : wp (F__law_far cs []) (tag Q) := by
  unfold F__law_far
  refine wp_runW rfl ?_
  unfold X__law_far
  simp -implicitDefEqProofs
  refine d_draw h (by omega) (by omega) (by omega) fun r1 cs1 a1 d1 => ?_
  obtain ⟨m, em⟩ : ∃ m : Nat, (1 + (r1 : Int)) = (m : Int) := ⟨1 + r1, by omega⟩
  simp -implicitDefEqProofs
  rw [em]
  refine d_draw d1 (by omega) (by omega) (by omega) fun r2 cs2 a2 d2 => ?_
  obtain ⟨n, en⟩ : ∃ n : Nat, (1 + (r2 : Int)) = (n : Int) := ⟨1 + r2, by omega⟩
  simp -implicitDefEqProofs
  rw [en]
  refine ⟨in62_nat (by omega), by omega, ?_⟩
  rw [Int.toNat_natCast]
  refine d_roads (m := m) (k := 4) 8 (fun cs z => [.own cs, .dat (natD m), .un, .un, z]) rfl (fun _ _ => rfl) (fun _ _ => rfl) d2 (fun i cs z Q hi d hq => ?_) fun rs cs3 z hl ho d3 => ?_
  · simp -implicitDefEqProofs
    refine d_ends d (by omega) (by omega) (by omega) fun x y cs4 ne hx hy d4 => ?_
    simp -implicitDefEqProofs
    refine d_room d4 (by omega) fun r cs5 r0 r1 d5 => ?_
    simp -implicitDefEqProofs
    exact hq ⟨x, y, r⟩ cs5 ⟨ne, hx, hy, r0, r1⟩ (d5.mono (by omega))
  · simp -implicitDefEqProofs
    refine d_ordered d3 (by omega) (by omega) (by omega) fun gs ts cs4 g1 t1 pg pt d4 => ?_
    simp -implicitDefEqProofs
    refine d_draw d4 (by omega) (by omega) (by omega) fun r5 cs5 a5 d5 => ?_
    simp -implicitDefEqProofs
    refine wp_alt (fun c => ?_) (fun c => ?_)
    · simp -implicitDefEqProofs
      refine d_rounded d5 (by omega) fun W cs6 w d6 => ?_
      simp -implicitDefEqProofs
      exact hq W cs6 w (d6.mono (by omega))
    · simp -implicitDefEqProofs
      exact hq _ cs5 (web_of (m := m) (by omega) (by omega) (by omega) (by omega) ho g1 t1 pg pt) (d5.mono (by omega))
theorem d_fullest {b : Nat} {cs : List Cel} {Q : PD × List Cel → Prop} (h : DkD b cs) (hb : b + 600 ≤ 2 ^ 40) (hq : ∀ W cs', IsWeb W → DkD (b + 600) cs' → Q (webD W, cs')) : wp (F__law_fullest cs []) (tag Q) := by
  unfold F__law_fullest
  refine wp_runW rfl ?_
  unfold X__law_fullest
  simp -implicitDefEqProofs
  refine d_roads (m := 8) (k := 2) (n := 20) 3 (fun cs z => [.own cs, .un, z]) rfl (fun _ _ => rfl) (fun _ _ => rfl) h (fun i cs z Q hi d hq => ?_) fun rs cs3 z hl ho d3 => ?_
  · simp -implicitDefEqProofs
    refine d_ends (m := 8) d (by omega) (by omega) (by omega) fun x y cs4 ne hx hy d4 => ?_
    simp -implicitDefEqProofs
    exact hq ⟨x, y, 1000000000000⟩ cs4 ⟨ne, hx, hy, by show (0 : Int) ≤ 1000000000000; decide, by show (1000000000000 : Int) ≤ 1000000000000; decide⟩ (d4.mono (by omega))
  · simp -implicitDefEqProofs
    refine d_ordered (m := 8) d3 (by omega) (by omega) (by omega) fun gs ts cs4 g1 t1 pg pt d4 => ?_
    simp -implicitDefEqProofs
    exact hq _ cs4 (web_of (m := 8) (by omega) (by omega) (by omega) (by omega) ho g1 t1 pg pt) (d4.mono (by omega))
theorem d_small {b : Nat} {cs : List Cel} {Q : PD × List Cel → Prop} (h : DkD b cs) (hb : b + 200 ≤ 2 ^ 40) (hq : ∀ W cs', IsWeb W → W.roads.length ≤ 6 → W.gives.length ≤ 3 → (∀ x ∈ W.roads, x.r ≤ 3) → DkD (b + 200) cs' → Q (webD W, cs')) : wp (F__law_small cs []) (tag Q) := by
  unfold F__law_small
  refine wp_runW rfl ?_
  unfold X__law_small
  simp -implicitDefEqProofs
  refine d_draw h (by omega) (by omega) (by omega) fun r1 cs1 a1 d1 => ?_
  obtain ⟨m, em⟩ : ∃ m : Nat, (1 + (r1 : Int)) = (m : Int) := ⟨1 + r1, by omega⟩
  simp -implicitDefEqProofs
  rw [em]
  refine d_draw d1 (by omega) (by omega) (by omega) fun r2 cs2 a2 d2 => ?_
  obtain ⟨n, en⟩ : ∃ n : Nat, (2 + (r2 : Int)) = (n : Int) := ⟨2 + r2, by omega⟩
  simp -implicitDefEqProofs
  rw [en]
  refine ⟨in62_nat (by omega), ?_⟩
  rw [Int.toNat_natCast]
  refine wp_forR (fun k ρ => ∃ (cs : List Cel) (rs : List Road) (p : Int) (z4 z5 : Sl), ρ = [.own cs, .dat (natD m), .own (dats (rs.map roadD)), .dat (.int p), z4, z5] ∧ rs.length = k ∧ (∀ x ∈ rs, OkRoad m x ∧ x.r ≤ 3) ∧ 1 ≤ p ∧ p ≤ 729 ∧ DkD (b + 2 + 4 * k) cs) ⟨cs2, [], 1, _, _, rfl, rfl, by simp, by omega, by omega, d2⟩ ?_ ?_
  · rintro i hi ρ ⟨cs, rs, p, z4, z5, rfl, hl, ho, p1, p2, d⟩
    unfold X__law_small_b1
    simp -implicitDefEqProofs
    refine d_draw d (by omega) (by omega) (by omega) fun r3 cs3 a3 d3 => ?_
    simp -implicitDefEqProofs
    refine wp_pick (by simp; omega) fun x hx => ?_
    obtain ⟨r, rfl, r0, r1⟩ : ∃ r : Int, x = .int r ∧ 0 ≤ r ∧ r ≤ 3 := by
      simp at hx
      rcases hx with rfl | rfl | rfl | rfl | rfl | rfl <;> exact ⟨_, rfl, by omega, by omega⟩
    simp -implicitDefEqProofs
    have i64 : In64 p := ⟨by omega, by omega⟩
    simp only [i64, true_or, true_and]
    have ap : ∀ {x : Road} {rs : List Road}, rs.length = i → (∀ x ∈ rs, OkRoad m x ∧ x.r ≤ 3) → OkRoad m x ∧ x.r ≤ 3 → (rs ++ [x]).length = i + 1 ∧ ∀ y ∈ rs ++ [x], OkRoad m y ∧ y.r ≤ 3 := fun hl ho ox => ⟨by simp [hl], fun y hy => by
      rcases List.mem_append.mp hy with h | h
      · exact ho y h
      · rw [List.mem_singleton.mp h]; exact ox⟩
    refine wp_altd (fun c => ?_) (fun c => ?_)
    · simp -implicitDefEqProofs [i64]
      refine d_ends d3 (by omega) (by omega) (by omega) fun x y cs4 ne hx hy d4 => ?_
      simp -implicitDefEqProofs
      obtain ⟨l1, l2⟩ := ap (x := ⟨x, y, 0⟩) hl ho ⟨⟨ne, hx, hy, by show (0 : Int) ≤ 0; decide, by show (0 : Int) ≤ 1000000000000; decide⟩, by show (0 : Int) ≤ 3; decide⟩
      refine ⟨by omega, ⟨cs4, rs ++ [⟨x, y, 0⟩], p, _, _, by rw [List.map_append]; rfl, l1, l2, p1, p2, d4.mono (by omega)⟩⟩
    · simp -implicitDefEqProofs [i64]
      refine d_ends d3 (by omega) (by omega) (by omega) fun x y cs4 ne hx hy d4 => ?_
      simp -implicitDefEqProofs
      obtain ⟨l1, l2⟩ := ap (x := ⟨x, y, r⟩) hl ho ⟨⟨ne, hx, hy, r0, by show r ≤ 1000000000000; omega⟩, r1⟩
      refine ⟨by omega, ⟨cs4, rs ++ [⟨x, y, r⟩], p * (r + 1), _, _, by rw [List.map_append]; rfl, l1, l2, ?_, by omega, d4.mono (by omega)⟩⟩
      have : 1 * 1 ≤ p * (r + 1) := Int.mul_le_mul p1 (by omega) (by omega) (by omega)
      omega
  · rintro ρ ⟨cs, rs, p, z4, z5, rfl, hl, ho, p1, p2, d⟩
    simp -implicitDefEqProofs
    refine d_ordered d (by omega) (by omega) (by omega) fun gs ts cs4 g1 t1 pg pt d4 => ?_
    simp -implicitDefEqProofs
    exact hq _ cs4 (web_of (m := m) (by omega) (by omega) (by omega) (by omega) (fun x hx => (ho x hx).1) g1 t1 pg pt) (by show rs.length ≤ 6; omega) (by show gs.length ≤ 3; omega) (fun x hx => (ho x hx).2) (d4.mono (by omega))
end Fn

namespace Fn
open PySem PySem.Spec PyProof.Rows L2 Uv
theorem ix_two {a b : PD} {s : Nat} (hs : s < 2) : ixP (.list [a, b]) (natD s) = some (if s = 0 then a else b) := by
  have : s = 0 ∨ s = 1 := by omega
  rcases this with rfl | rfl <;> rfl
theorem k39_b1 {W : Web} {i s : Nat} {hi : i < W.roads.length} {ds : List PD} {y0 y1 y2 y3 y5 y7 : Sl} {y12 y13 y14 y15 : Sl} {Q : Out → Prop} (hs : s < 2) (hl : ds.length ≤ 2)
    (hq : Q (.nxt [y0, y1, y2, y3, .dat (natD W.gives.length), y5, .dat (.list [.list ((doorsOf W 0).map natD), .list ((doorsOf W 1).map natD)]), y7, .dat (natD i), .dat (roadD W.roads[i]), .own (dats (ds ++ [natD (seatOf W s (W.roads[i], i))])), .dat (natD s), y12, y13, y14, y15])) :
    wp (X__law_fair_b_b1 [y0, y1, y2, y3, .dat (natD W.gives.length), y5, .dat (.list [.list ((doorsOf W 0).map natD), .list ((doorsOf W 1).map natD)]), y7, .dat (natD i), .dat (roadD W.roads[i]), .own (dats ds), .dat (natD s), y12, y13, y14, y15]) (tag Q) := by
  unfold X__law_fair_b_b1
  simp -implicitDefEqProofs [ix_side hs]
  cases e : side s W.roads[i] with
  | none =>
    have m := n_idxL (door_in hi e)
    have ix := ix_two (a := .list ((doorsOf W 0).map natD)) (b := .list ((doorsOf W 1).map natD)) hs
    have ee : (if s = 0 then PyData.list ((doorsOf W 0).map natD) else .list ((doorsOf W 1).map natD)) = .list ((doorsOf W s).map natD) := by
      have : s = 0 ∨ s = 1 := by omega
      rcases this with rfl | rfl <;> rfl
    rw [ee] at ix
    simp -implicitDefEqProofs [q_idx, ix, m]
    refine ⟨by omega, ?_⟩
    have : natD (seatOf W s (W.roads[i], i)) = .int ((W.gives.length : Int) + ((doorsOf W s).idxOf i : Nat)) := by unfold seatOf; rw [e]; simp
    rw [← this]
    exact hq
  | some h =>
    simp -implicitDefEqProofs [endD, ix_side hs, e]
    refine ⟨by omega, ?_⟩
    have : natD (seatOf W s (W.roads[i], i)) = natD h := by unfold seatOf; rw [e]
    rw [← this]
    exact hq
theorem k39_fair {W : Web} (hw : IsWeb W) : F__law_fair_b [webD W] = some (fairD (fairOf W)) := by
  have hc := hw.count
  have hh := hw.houses
  have hm := hw.same
  have d0 := doors_len (W := W) (s := 0)
  have d1 := doors_len (W := W) (s := 1)
  have dl : ∀ s, (doorsOf W s).length = (doorP W s).length := fun s => by unfold doorsOf; simp
  unfold F__law_fair_b
  refine eq_of_wp (wp_runP rfl ?_)
  unfold X__law_fair_b
  simp -implicitDefEqProofs
  refine ⟨by omega, wp_lcT (fun x => .int x.r) (fun x hx => by simp -implicitDefEqProofs) ?_⟩
  simp -implicitDefEqProofs [q_sum]
  rw [show (1 : Int) + (W.roads.map (·.r)).sum = bigOf W by unfold bigOf; omega]
  refine wp_lcT (fun s => .list ((doorsOf W s).map natD)) (fun s hs => ?_) ?_
  · have hs : s < 2 := by simpa using hs
    simp -implicitDefEqProofs
    refine ⟨by omega, wp_lcE (fun p => (side s p.1).isNone) (fun p => natD p.2) (fun i hi => by simp -implicitDefEqProofs [ix_side hs]) ?_⟩
    simp -implicitDefEqProofs
    unfold doorsOf doorP
    rw [List.map_map]
    rfl
  · simp -implicitDefEqProofs [List.range_succ]
    refine wp_forE (fun k ρ => ∃ (ds : List PD) (z8 z9 z10 z11 : Sl), ρ = [.dat (webD W), .dat (.tuple (W.roads.map roadD)), .dat (.tuple (W.gives.map natsD)), .dat (.tuple (W.takes.map natsD)), .dat (natD W.gives.length), .dat (.int (bigOf W)), .dat (.list [.list ((doorsOf W 0).map natD), .list ((doorsOf W 1).map natD)]), .own (dats ds), z8, z9, z10, z11, .un, .un, .un, .un] ∧ ds = ((roadTies W).take k).map tieD) ⟨[], _, _, _, _, rfl, rfl⟩ ?_ ?_
    · rintro i hi ρ ⟨ds, z8, z9, z10, z11, rfl, hds⟩
      have dl : ds.length ≤ i := by rw [hds]; simp; omega
      have hl : i < (roadTies W).length := by unfold roadTies; simpa using hi
      have ht : (roadTies W)[i] = ⟨seatOf W 0 (W.roads[i], i), seatOf W 1 (W.roads[i], i), W.roads[i].r⟩ := by simp only [roadTies, List.getElem_map, List.getElem_zipIdx, Nat.zero_add]
      have fin : ((roadTies W).take (i + 1)).map tieD = ((roadTies W).take i).map tieD ++ [tieD (roadTies W)[i]] := by rw [List.take_succ_eq_append_getElem hl, List.map_append]; rfl
      unfold X__law_fair_b_b2
      simp -implicitDefEqProofs [List.range_succ, wp_for_cons, wp_for_nil]
      refine k39_b1 (s := 0) (ds := []) (hi := hi) (by omega) (by simp) ?_
      simp -implicitDefEqProofs [wp_for_cons, wp_for_nil]
      refine k39_b1 (s := 1) (ds := [natD (seatOf W 0 (W.roads[i], i))]) (hi := hi) (by omega) (by simp) ?_
      simp -implicitDefEqProofs [wp_for_cons, wp_for_nil]
      refine ⟨by omega, ⟨_, _, _, _, _, rfl, ?_⟩⟩
      rw [fin, ht, hds]
      simp [tieD]
    · rintro ρ ⟨ds, z8, z9, z10, z11, rfl, rfl⟩
      rw [List.take_of_length_le (by unfold roadTies; simp)]
      have rl : (roadTies W).length = W.roads.length := by unfold roadTies; simp
      simp -implicitDefEqProofs
      refine ⟨in62_nat (by omega), ?_⟩
      refine wp_forR (fun k ρ => ∃ (ts gs us : List PD) (z8 z9 z10 z11 z14 z15 : Sl), ρ = [.dat (webD W), .dat (.tuple (W.roads.map roadD)), .dat (.tuple (W.gives.map natsD)), .dat (.tuple (W.takes.map natsD)), .dat (natD W.gives.length), .dat (.int (bigOf W)), .dat (.list [.list ((doorsOf W 0).map natD), .list ((doorsOf W 1).map natD)]), .dat (.list ts), z8, z9, z10, z11, .own (dats gs), .own (dats us), z14, z15]
        ∧ ts = (roadTies W ++ (List.range k).flatMap fun h => [(⟨h, h, bigOf W⟩ : Tie), ⟨h, h, bigOf W⟩]).map tieD ∧ ts.length = W.roads.length + 2 * k ∧ gs = ((W.gives.zipIdx.map fun p => (⟨bigOf W, lyingOf W p.2 :: (p.1 ++ [lyingOf W p.2 + 1])⟩ : Seat)).take k).map seatD ∧ us = ((W.takes.zipIdx.map fun p => (⟨bigOf W, (lyingOf W p.2 + 1) :: (p.1 ++ [lyingOf W p.2])⟩ : Seat)).take k).map seatD)
        ⟨_, [], [], _, _, _, _, _, _, rfl, by simp, by simp [rl], rfl, rfl⟩ ?_ ?_
      · rintro i hi ρ ⟨ts, gs, us, z8, z9, z10, z11, z14, z15, rfl, h1, h2, h3, h4⟩
        have g1 : gs.length ≤ i := by rw [h3]; simp; omega
        have u1 : us.length ≤ i := by rw [h4]; simp; omega
        have gl := give_len hw hi
        have tl := take_len hw (show i < W.takes.length by omega)
        unfold X__law_fair_b_b3
        simp -implicitDefEqProofs [h2]
        refine ⟨by omega, ?_⟩
        simp -implicitDefEqProofs [atI_map hi]
        refine ⟨by omega, by omega, by omega, ?_⟩
        simp -implicitDefEqProofs [atI_map (show i < W.takes.length by omega)]
        refine ⟨by omega, by omega, by omega, ⟨_, _, _, _, _, _, _, _, _, rfl, ?_, by simp [h2]; omega, ?_, ?_⟩⟩
        · rw [List.range_succ, List.flatMap_append, ← List.append_assoc, List.map_append, ← h1]
          simp [tieD]
        · rw [List.take_succ_eq_append_getElem (by simpa using hi), List.map_append, ← h3]
          simp [seatD, natsD, lyingOf]
        · rw [List.take_succ_eq_append_getElem (by simp; omega), List.map_append, ← h4]
          simp [seatD, natsD, lyingOf]
      · rintro ρ ⟨ts, gs, us, z8, z9, z10, z11, z14, z15, rfl, h1, h2, h3, h4⟩
        rw [List.take_of_length_le (by simp)] at h3
        rw [List.take_of_length_le (by simp; omega)] at h4
        have g1 : gs.length ≤ 8 := by rw [h3]; simp; omega
        have u1 : us.length ≤ 8 := by rw [h4]; simp; omega
        have ds : ∀ s, (doorsOf W s).map natD = (doorP W s).map fun p => natD p.2 := fun s => by unfold doorsOf; rw [List.map_map]; rfl
        simp -implicitDefEqProofs
        refine ⟨by rw [dl]; omega, ?_⟩
        rw [ds 0]
        refine wp_lcT (fun p => seatD ⟨p.1.r, [p.2]⟩) (fun p hp => ?_) ?_
        · obtain ⟨g1, g2, g3⟩ := doorP_mem hp
          simp -implicitDefEqProofs [atI_map g1, g2]
          rfl
        simp -implicitDefEqProofs
        refine ⟨by omega, by rw [dl]; omega, ?_⟩
        rw [ds 1]
        refine wp_lcT (fun p => seatD ⟨p.1.r, [p.2]⟩) (fun p hp => ?_) ?_
        · obtain ⟨g1, g2, g3⟩ := doorP_mem hp
          simp -implicitDefEqProofs [atI_map g1, g2]
          rfl
        simp -implicitDefEqProofs
        refine ⟨by omega, ?_⟩
        subst h1 h3 h4
        unfold fairD fairOf giversOf takersOf houseTies doorSeats
        simp
end Fn

namespace Fn
open PySem PySem.Spec PyProof.Rows L2 Uv
/-! webs and fairs, told by repr -/
theorem sho_end {k : Nat} {o : Option Nat} {n : Nat} (h : ∀ j, o = some j → j < n) (hn : n ≤ 1000) : Sho k 41 (endD o) := by
  cases o with
  | none => exact Sho.non.mono (Nat.le_refl _) (by decide)
  | some j => have := h j rfl; exact Sho.nat (by omega)
theorem sho_room {k : Nat} {r : Int} (h0 : 0 ≤ r) (h1 : r ≤ 1000000000000000) : Sho k 41 (.int r) := Sho.int (by omega)
theorem sho_road {k n : Nat} {x : Road} (h : OkRoad n x) (hn : n ≤ 1000) : Sho (k + 1) 132 (roadD x) := by
  refine Sho.tup (k := k) (n := 41) (L := 3) (fun d hd => ?_) (by simp)
  simp only [List.mem_cons, List.not_mem_nil, or_false] at hd
  rcases hd with rfl | rfl | rfl
  · exact sho_end h.2.1 hn
  · exact sho_end h.2.2.1 hn
  · exact sho_room h.2.2.2.1 (by have := h.2.2.2.2; omega)
theorem sho_orders {k : Nat} {os : List (List Nat)} (h1 : os.length ≤ 8) (h2 : ∀ l ∈ os, l.length ≤ 20 ∧ ∀ j ∈ l, j < 1000) : Sho (k + 2) 6923 (.tuple (os.map natsD)) := by
  refine Sho.tup (k := k + 1) (n := 863) (L := 8) (fun d hd => ?_) (by simpa using h1)
  obtain ⟨l, hl, rfl⟩ := List.mem_map.mp hd
  exact Sho.nats (L := 20) (fun j hj => Nat.lt_trans ((h2 l hl).2 j hj) (by decide)) (h2 l hl).1
theorem sho_web {W : Web} (hw : IsWeb W) : Sho 60 10000000 (webD W) := by
  have hc := hw.count
  have hh := hw.houses
  have hm := hw.same
  refine (Sho.tup (k := 2) (n := 6923) (L := 3) (fun d hd => ?_) (by simp)).mono (by decide) (by decide)
  simp only [List.mem_cons, List.not_mem_nil, or_false] at hd
  rcases hd with rfl | rfl | rfl
  · refine (Sho.tup (k := 1) (n := 132) (L := 20) (fun d hd => ?_) (by simpa using hc.2)).mono (by decide) (by decide)
    obtain ⟨x, hx, rfl⟩ := List.mem_map.mp hd
    exact sho_road (hw.road x hx) (by omega)
  · refine sho_orders hh.2 fun l hl => ?_
    obtain ⟨k, hk⟩ := List.getElem?_of_mem hl
    obtain ⟨h1, h2⟩ := List.getElem?_eq_some_iff.mp hk
    exact ⟨by rw [← h2]; exact give_len hw h1, fun j hj => by have := atR_lt ((hw.give k l hk).mem_iff.mp hj); omega⟩
  · refine sho_orders (by omega) fun l hl => ?_
    obtain ⟨k, hk⟩ := List.getElem?_of_mem hl
    obtain ⟨h1, h2⟩ := List.getElem?_eq_some_iff.mp hk
    exact ⟨by rw [← h2]; exact take_len hw h1, fun j hj => by have := atR_lt ((hw.take k l hk).mem_iff.mp hj); omega⟩
theorem sho_tie {k g t : Nat} {x : Tie} (h : OkTie g t x) (hg : g ≤ 1000) (ht : t ≤ 1000) : Sho (k + 1) 132 (tieD x) := by
  have h1 := h.g
  have h2 := h.t
  refine Sho.tup (k := k) (n := 41) (L := 3) (fun d hd => ?_) (by simp)
  simp only [List.mem_cons, List.not_mem_nil, or_false] at hd
  rcases hd with rfl | rfl | rfl
  · exact Sho.nat (by omega)
  · exact Sho.nat (by omega)
  · exact sho_room h.r0 h.r1
theorem sho_seat {k : Nat} {ts : List Tie} {s j : Nat} {x : Seat} (h : OkSeat ts s j x) (hn : ts.length ≤ 36) : Sho (k + 2) 3109 (seatD x) := by
  refine Sho.tup (k := k + 1) (n := 1551) (L := 2) (fun d hd => ?_) (by simp)
  simp only [List.mem_cons, List.not_mem_nil, or_false] at hd
  rcases hd with rfl | rfl
  · exact (sho_room h.m0 h.m1).mono (Nat.le_refl _) (by decide)
  · refine Sho.nats (L := 36) (fun j hj => ?_) ?_
    · have := atT_lt (h.p.mem_iff.mp hj)
      omega
    · have := atT_len (ts := ts) (s := s) (k := j)
      have := h.p.length_eq
      omega
theorem sho_fair {F : Fair} (hf : IsFair F) : Sho 60 10000000 (fairD F) := by
  have hg := hf.g
  have ht := hf.t
  refine (Sho.tup (k := 3) (n := 87111) (L := 3) (fun d hd => ?_) (by simp)).mono (by decide) (by decide)
  simp only [List.mem_cons, List.not_mem_nil, or_false] at hd
  rcases hd with rfl | rfl | rfl
  · refine (Sho.tup (k := 2) (n := 132) (L := 36) (fun d hd => ?_) (by simpa using hf.n)).mono (by decide) (by decide)
    obtain ⟨x, hx, rfl⟩ := List.mem_map.mp hd
    exact sho_tie (hf.tie x hx) (by omega) (by omega)
  · refine Sho.tup (k := 2) (n := 3109) (L := 28) (fun d hd => ?_) (by simpa using hg.2)
    obtain ⟨x, hx, rfl⟩ := List.mem_map.mp hd
    obtain ⟨k, hk⟩ := List.getElem?_of_mem hx
    exact sho_seat (hf.give k x hk) hf.n
  · refine Sho.tup (k := 2) (n := 3109) (L := 28) (fun d hd => ?_) (by simpa using ht.2)
    obtain ⟨x, hx, rfl⟩ := List.mem_map.mp hd
    obtain ⟨k, hk⟩ := List.getElem?_of_mem hx
    exact sho_seat (hf.take k x hk) hf.n
end Fn

namespace Fn
open PySem PySem.Spec PyProof.Rows L2 Uv
theorem cut_63 {ns : List Int} (h : ns.length ≤ 63) : Uv.cutD (ns.map PyData.int) none (some 63) = ns.map PyData.int := by
  unfold Uv.cutD
  rw [HT.sIx_none, show (some (63 : Int)) = some ((63 : Nat) : Int) from rfl, HT.sIx_nat, List.length_map, Nat.min_eq_right h]
  exact List.take_of_length_le (by simp)
theorem d_deck {ns : List Int} {Q : List Cel → Prop} (h : ns.length ≤ 63) (hq : ∀ cs, DkD 0 cs → Q cs) : wp (F__law_deck_e [scrD (ns.map PyData.int)]) (tag Q) := by
  unfold F__law_deck_e
  refine wp_runD rfl ?_
  unfold X__law_deck_e
  simp -implicitDefEqProofs [cut_63 h]
  refine ⟨by omega, wp_lcT (fun i => .int (if i < 0 then -i else i)) (fun x hx => by simp -implicitDefEqProofs) ?_⟩
  simp -implicitDefEqProofs
  refine hq _ ⟨ns.map fun i => if i < 0 then -i else i, 0, ?_, by simpa using h, by decide, by decide⟩
  rw [List.map_map]
  rfl
theorem k39_web {W : Web} {y0 y1 y2 y4 y5 y6 y7 : Sl} {Q : Out → Prop} (hw : IsWeb W) (hq : ∀ z4 z5 z6 z7, Q (.nxt [y0, y1, y2, .dat (webD W), z4, z5, z6, z7])) : wp (X_law_z38_b2 [y0, y1, y2, .dat (webD W), y4, y5, y6, y7]) (tag Q) := by
  have hf := fair_ok hw
  have s1 := sho_web hw
  have s2 := sho_fair hf
  unfold X_law_z38_b2
  simp -implicitDefEqProofs [rp_of s1, k39_fair hw]
  refine wp_forR (n := 2) (fun k ρ => ∃ z6 z7 : Sl, ρ = [y0, y1, y2, .dat (webD W), .dat (.str (webD W).shown), .dat (fairD (fairOf W)), z6, z7]) ⟨_, _, rfl⟩ ?_ ?_
  · rintro i hi ρ ⟨z6, z7, rfl⟩
    unfold X_law_z38_b1
    simp -implicitDefEqProofs [p_fair_of hw, rp_of s2, ne_shown s2, p_is_fair hf]
    exact ⟨_, _, rfl⟩
  · rintro ρ ⟨z6, z7, rfl⟩
    simp -implicitDefEqProofs [rp_of s1, ne_shown s1]
    exact hq _ _ _ _
theorem k39 (ns : List Int) (h : ns.length ≤ 63) : F_law_z38 [scrD (ns.map PyData.int)] = some (.bool true) := by
  unfold F_law_z38
  refine eq_of_wp (wp_runP rfl ?_)
  unfold X_law_z38
  simp -implicitDefEqProofs
  refine d_deck h fun cs0 d0 => ?_
  simp -implicitDefEqProofs
  refine d_small d0 (by omega) fun W1 cs1 w1 _ _ _ d1 => ?_
  simp -implicitDefEqProofs
  refine d_far d1 (by omega) fun W2 cs2 w2 d2 => ?_
  simp -implicitDefEqProofs
  refine d_far d2 (by omega) fun W3 cs3 w3 d3 => ?_
  simp -implicitDefEqProofs
  refine d_fullest d3 (by omega) fun W4 cs4 w4 d4 => ?_
  simp -implicitDefEqProofs
  have ok : ∀ W ∈ [W1, W2, W3, W4], IsWeb W := fun W hW => by
    simp only [List.mem_cons, List.not_mem_nil, or_false] at hW
    rcases hW with rfl | rfl | rfl | rfl <;> assumption
  refine wp_forM (l := [W1, W2, W3, W4]) (enc := webD) (fun k ρ => ∃ z0 z1 z2 z3 z4 z5 z6 z7 : Sl, ρ = [z0, z1, z2, z3, z4, z5, z6, z7]) ⟨_, _, _, _, _, _, _, _, rfl⟩ ?_ ?_
  · rintro i hi ρ ⟨z0, z1, z2, z3, z4, z5, z6, z7, rfl⟩
    simp -implicitDefEqProofs
    refine k39_web (ok _ (List.getElem_mem hi)) fun u4 u5 u6 u7 => ?_
    simp -implicitDefEqProofs
    exact ⟨_, _, _, _, _, _, _, _, rfl⟩
  · rintro ρ ⟨z0, z1, z2, z3, z4, z5, z6, z7, rfl⟩
    simp -implicitDefEqProofs
end Fn

namespace Row
open PySem PySem.Spec PyProof.Rows L2 Uv Fn
def topS (i : Nat) : Stmt := PySem.Challenge.pw_unturned_k39_fairs_of_webs.main.body.getD i (.Pass ⟨0, 0, 0, 0⟩)
abbrev s__law_deck : Stmt := topS 27
abbrev N__law_deck : List Str := ["_law_script", "_law_cell"]
theorem sc__law_deck : FnScope N__law_deck ["_law_script"] (defScope s__law_deck) := ⟨rfl, rfl, rfl, by decide +kernel, rfl, by decide +kernel, by decide +kernel⟩
abbrev s__law_fair : Stmt := topS 36
abbrev N__law_fair : List Str := ["_law_web", "_law_roads", "_law_gives", "_law_takes", "_law_houses", "_law_big", "_law_outer", "_law_ties", "_law_number", "_law_road", "_law_seats", "_law_side", "_law_givers", "_law_takers", "_law_house", "_law_first"]
theorem sc__law_fair : FnScope N__law_fair ["_law_web"] (defScope s__law_fair) := ⟨rfl, rfl, rfl, by decide +kernel, rfl, by decide +kernel, by decide +kernel⟩
abbrev s__law_draw : Stmt := topS 28
abbrev N__law_draw : List Str := ["_law_deck_here", "_law_many", "_law_cell", "_law_place", "_law_mixed"]
theorem sc__law_draw : FnScope N__law_draw ["_law_deck_here", "_law_many"] (defScope s__law_draw) := ⟨rfl, rfl, rfl, by decide +kernel, rfl, by decide +kernel, by decide +kernel⟩
abbrev s__law_ends : Stmt := topS 30
abbrev N__law_ends : List Str := ["_law_deck_here", "_law_many", "_law_way", "_law_here"]
theorem sc__law_ends : FnScope N__law_ends ["_law_deck_here", "_law_many"] (defScope s__law_ends) := ⟨rfl, rfl, rfl, by decide +kernel, rfl, by decide +kernel, by decide +kernel⟩
abbrev s__law_shuffled : Stmt := topS 29
abbrev N__law_shuffled : List Str := ["_law_deck_here", "_law_some", "_law_left", "_law_found"]
theorem sc__law_shuffled : FnScope N__law_shuffled ["_law_deck_here", "_law_some"] (defScope s__law_shuffled) := ⟨rfl, rfl, rfl, by decide +kernel, rfl, by decide +kernel, by decide +kernel⟩
abbrev s__law_ordered : Stmt := topS 31
abbrev N__law_ordered : List Str := ["_law_deck_here", "_law_many", "_law_roads", "_law_orders", "_law_side", "_law_house", "_law_own", "_law_number", "_law_road"]
theorem sc__law_ordered : FnScope N__law_ordered ["_law_deck_here", "_law_many", "_law_roads"] (defScope s__law_ordered) := ⟨rfl, rfl, rfl, by decide +kernel, rfl, by decide +kernel, by decide +kernel⟩
abbrev s__law_room : Stmt := topS 33
abbrev N__law_room : List Str := ["_law_deck_here", "_law_far_here", "_law_some"]
theorem sc__law_room : FnScope N__law_room ["_law_deck_here"] (defScope s__law_room) := ⟨rfl, rfl, rfl, by decide +kernel, rfl, by decide +kernel, by decide +kernel⟩
abbrev s__law_rounded : Stmt := topS 35
abbrev N__law_rounded : List Str := ["_law_deck_here", "_law_rooms", "_law_roads", "_law_gives", "_law_takes", "_law_k"]
theorem sc__law_rounded : FnScope N__law_rounded ["_law_deck_here"] (defScope s__law_rounded) := ⟨rfl, rfl, rfl, by decide +kernel, rfl, by decide +kernel, by decide +kernel⟩
abbrev s__law_far : Stmt := topS 34
abbrev N__law_far : List Str := ["_law_deck_here", "_law_many", "_law_roads", "_law_web", "_law_k"]
theorem sc__law_far : FnScope N__law_far ["_law_deck_here"] (defScope s__law_far) := ⟨rfl, rfl, rfl, by decide +kernel, rfl, by decide +kernel, by decide +kernel⟩
abbrev s__law_fullest : Stmt := topS 37
abbrev N__law_fullest : List Str := ["_law_deck_here", "_law_roads", "_law_k"]
theorem sc__law_fullest : FnScope N__law_fullest ["_law_deck_here"] (defScope s__law_fullest) := ⟨rfl, rfl, rfl, by decide +kernel, rfl, by decide +kernel, by decide +kernel⟩
abbrev s__law_small : Stmt := topS 32
abbrev N__law_small : List Str := ["_law_deck_here", "_law_many", "_law_roads", "_law_product", "_law_k", "_law_room_here"]
theorem sc__law_small : FnScope N__law_small ["_law_deck_here"] (defScope s__law_small) := ⟨rfl, rfl, rfl, by decide +kernel, rfl, by decide +kernel, by decide +kernel⟩
abbrev s_big_of : Stmt := topS 18
abbrev N_big_of : List Str := ["web", "begin", "end", "room"]
theorem sc_big_of : FnScope N_big_of ["web"] (defScope s_big_of) := ⟨rfl, rfl, rfl, by decide +kernel, rfl, by decide +kernel, by decide +kernel⟩
abbrev s_door_seats : Stmt := topS 25
abbrev N_door_seats : List Str := ["web", "roads", "road"]
theorem sc_door_seats : FnScope N_door_seats ["web", "roads"] (defScope s_door_seats) := ⟨rfl, rfl, rfl, by decide +kernel, rfl, by decide +kernel, by decide +kernel⟩
abbrev s_in_doors : Stmt := topS 14
abbrev N_in_doors : List Str := ["web", "number", "road"]
theorem sc_in_doors : FnScope N_in_doors ["web"] (defScope s_in_doors) := ⟨rfl, rfl, rfl, by decide +kernel, rfl, by decide +kernel, by decide +kernel⟩
abbrev s_lying : Stmt := topS 19
abbrev N_lying : List Str := ["web", "house"]
theorem sc_lying : FnScope N_lying ["web", "house"] (defScope s_lying) := ⟨rfl, rfl, rfl, by decide +kernel, rfl, by decide +kernel, by decide +kernel⟩
abbrev s_standing : Stmt := topS 20
abbrev N_standing : List Str := ["web", "house"]
theorem sc_standing : FnScope N_standing ["web", "house"] (defScope s_standing) := ⟨rfl, rfl, rfl, by decide +kernel, rfl, by decide +kernel, by decide +kernel⟩
abbrev s_givers_of : Stmt := topS 23
abbrev N_givers_of : List Str := ["web", "big", "seats", "house", "order"]
theorem sc_givers_of : FnScope N_givers_of ["web"] (defScope s_givers_of) := ⟨rfl, rfl, rfl, by decide +kernel, rfl, by decide +kernel, by decide +kernel⟩
abbrev s_house_ties : Stmt := topS 22
abbrev N_house_ties : List Str := ["web", "big", "ties", "house"]
theorem sc_house_ties : FnScope N_house_ties ["web"] (defScope s_house_ties) := ⟨rfl, rfl, rfl, by decide +kernel, rfl, by decide +kernel, by decide +kernel⟩
abbrev s_out_doors : Stmt := topS 15
abbrev N_out_doors : List Str := ["web", "number", "road"]
theorem sc_out_doors : FnScope N_out_doors ["web"] (defScope s_out_doors) := ⟨rfl, rfl, rfl, by decide +kernel, rfl, by decide +kernel, by decide +kernel⟩
abbrev s_road_ties : Stmt := topS 21
abbrev N_road_ties : List Str := ["web", "coming", "going", "houses", "ties", "road", "begin", "end", "room", "giver", "taker"]
theorem sc_road_ties : FnScope N_road_ties ["web"] (defScope s_road_ties) := ⟨rfl, rfl, rfl, by decide +kernel, rfl, by decide +kernel, by decide +kernel⟩
abbrev s_takers_of : Stmt := topS 24
abbrev N_takers_of : List Str := ["web", "big", "seats", "house", "order"]
theorem sc_takers_of : FnScope N_takers_of ["web"] (defScope s_takers_of) := ⟨rfl, rfl, rfl, by decide +kernel, rfl, by decide +kernel, by decide +kernel⟩
abbrev s_fair_of : Stmt := topS 17
abbrev N_fair_of : List Str := ["web"]
theorem sc_fair_of : FnScope N_fair_of ["web"] (defScope s_fair_of) := ⟨rfl, rfl, rfl, by decide +kernel, rfl, by decide +kernel, by decide +kernel⟩
abbrev s_is_number : Stmt := topS 4
abbrev N_is_number : List Str := ["thing"]
theorem sc_is_number : FnScope N_is_number ["thing"] (defScope s_is_number) := ⟨rfl, rfl, rfl, by decide +kernel, rfl, by decide +kernel, by decide +kernel⟩
abbrev s_is_number_to : Stmt := topS 5
abbrev N_is_number_to : List Str := ["thing", "most"]
theorem sc_is_number_to : FnScope N_is_number_to ["thing", "most"] (defScope s_is_number_to) := ⟨rfl, rfl, rfl, by decide +kernel, rfl, by decide +kernel, by decide +kernel⟩
abbrev s_is_order : Stmt := topS 7
abbrev N_is_order : List Str := ["thing", "numbers", "number"]
theorem sc_is_order : FnScope N_is_order ["thing", "numbers"] (defScope s_is_order) := ⟨rfl, rfl, rfl, by decide +kernel, rfl, by decide +kernel, by decide +kernel⟩
abbrev s_is_tuple_of : Stmt := topS 6
abbrev N_is_tuple_of : List Str := ["thing", "least", "most"]
theorem sc_is_tuple_of : FnScope N_is_tuple_of ["thing", "least", "most"] (defScope s_is_tuple_of) := ⟨rfl, rfl, rfl, by decide +kernel, rfl, by decide +kernel, by decide +kernel⟩
abbrev s_is_seat : Stmt := topS 12
abbrev N_is_seat : List Str := ["thing", "ties"]
theorem sc_is_seat : FnScope N_is_seat ["thing", "ties"] (defScope s_is_seat) := ⟨rfl, rfl, rfl, by decide +kernel, rfl, by decide +kernel, by decide +kernel⟩
abbrev s_are_seats : Stmt := topS 11
abbrev N_are_seats : List Str := ["seats", "sitting", "number", "seat", "tie", "other"]
theorem sc_are_seats : FnScope N_are_seats ["seats", "sitting"] (defScope s_are_seats) := ⟨rfl, rfl, rfl, by decide +kernel, rfl, by decide +kernel, by decide +kernel⟩
abbrev s_is_tie : Stmt := topS 10
abbrev N_is_tie : List Str := ["thing", "givers", "takers", "giver", "taker", "room"]
theorem sc_is_tie : FnScope N_is_tie ["thing", "givers", "takers"] (defScope s_is_tie) := ⟨rfl, rfl, rfl, by decide +kernel, rfl, by decide +kernel, by decide +kernel⟩
abbrev s_is_fair : Stmt := topS 9
abbrev N_is_fair : List Str := ["thing", "ties", "givers", "takers", "tie"]
theorem sc_is_fair : FnScope N_is_fair ["thing"] (defScope s_is_fair) := ⟨rfl, rfl, rfl, by decide +kernel, rfl, by decide +kernel, by decide +kernel⟩
abbrev s_law : Stmt := topS 38
abbrev N_law : List Str := ["_law_script", "_law_deck_here", "_law_webs", "_law_web", "_law_kept", "_law_due", "_law_again", "_law_found"]
theorem sc_law : FnScope N_law ["_law_script"] (defScope s_law) := ⟨rfl, rfl, rfl, by decide +kernel, rfl, by decide +kernel, by decide +kernel⟩
structure Bm (mg : Str → Option Value) : Prop where
  n_abs : mg "abs" = none
  n_all : mg "all" = none
  n_bool : mg "bool" = none
  n_enumerate : mg "enumerate" = none
  n_int : mg "int" = none
  n_isinstance : mg "isinstance" = none
  n_len : mg "len" = none
  n_list : mg "list" = none
  n_range : mg "range" = none
  n_repr : mg "repr" = none
  n_sorted : mg "sorted" = none
  n_sum : mg "sum" = none
  n_tuple : mg "tuple" = none
section
variable [kk : KK] {P : Program} {w : World} {mg : Str → Option Value} {base : Heap}
theorem eq_F__law_deck_e : F__law_deck_e = runD 1 1 X__law_deck_e := by unfold F__law_deck_e; rfl
theorem c__law_deck (F : Dfn K mg "_law_deck" s__law_deck ["_law_script"]) (B : Bm mg) : CalG P w K mg base 1 "_law_deck" (spD F__law_deck_e) := by
  rw [eq_F__law_deck_e]
  refine cal_g F sc__law_deck (fun vs H Q E h => len_D h) (fun f cdv A outer s H E hG hr => ⟨T__law_deck_e, ?_, fun vs Q h => go_D (n := 1) (k := 1) ss__law_deck_e rfl h⟩)
  unfold T__law_deck_e
  exact pss_one (ps_ret (pe_lst (pa_cons (pe_lc (own := [("_law_cell", 1)]) rfl sc__law_deck.nd (PI.or (pi_list (pe_slice sl_U (pv 0) po_none (po_some pe_int))) (pi_tup (pe_slice sl_U (pv 0) po_none (po_some pe_int)))) (blkOk_by (N := N__law_deck) (sc := defScope s__law_deck) (by decide +kernel)) (fun _ _ _ _ _ => (pg_name (i := 1) sc__law_deck.nd rfl (.inl rfl))) (fun _ _ _ _ _ => pts_nil) (fun _ _ _ _ _ => pe_callB call_abs (by rfl) B.n_abs (by decide +kernel) (pa_cons (pv 1) pa_nil))) (pa_cons pe_int pa_nil))))
theorem eq_F__law_fair_b : F__law_fair_b = runP 1 15 X__law_fair_b := by unfold F__law_fair_b; rfl
theorem c__law_fair (F : Dfn K mg "_law_fair" s__law_fair ["_law_web"]) (B : Bm mg) : CalG P w K mg base 1 "_law_fair" (spF F__law_fair_b) := by
  rw [eq_F__law_fair_b]
  refine cal_g F sc__law_fair (fun vs H Q E h => len_F h) (fun f cdv A outer s H E hG hr => ⟨T__law_fair_b, ?_, fun vs Q h => go_P (n := 1) (k := 15) ss__law_fair_b rfl h⟩)
  unfold T__law_fair_b
  exact pss_cons (ps_asg (pv 0) (PG.or (pg_tup rfl (pgs_cons (pg_name (i := 1) sc__law_fair.nd rfl (.inr rfl)) (pgs_cons (pg_name (i := 2) sc__law_fair.nd rfl (.inl rfl)) (pgs_cons (pg_name (i := 3) sc__law_fair.nd rfl (.inl rfl)) pgs_nil)))) (pg_unl rfl (pgs_cons (pg_name (i := 1) sc__law_fair.nd rfl (.inr rfl)) (pgs_cons (pg_name (i := 2) sc__law_fair.nd rfl (.inl rfl)) (pgs_cons (pg_name (i := 3) sc__law_fair.nd rfl (.inl rfl)) pgs_nil))))))
      (pss_cons (ps_set (i := 4) sc__law_fair.nd rfl (.inl rfl) (pe_callB call_len_seq (by rfl) B.n_len (by decide +kernel) (pa_cons (pv 2) pa_nil)))
      (pss_cons (ps_set (i := 5) sc__law_fair.nd rfl (.inl rfl) (pe_op op_addU pe_int (pe_callB (cr_sum rfl) (by rfl) B.n_sum (by decide +kernel) (pa_cons (pe_lc (own := [("_law_road", 9)]) rfl sc__law_fair.nd (PI.or (pi_list (pv 1)) (pi_tup (pv 1))) (blkOk_by (N := N__law_fair) (sc := defScope s__law_fair) (by decide +kernel)) (fun _ _ _ _ _ => (pg_name (i := 9) sc__law_fair.nd rfl (.inl rfl))) (fun _ _ _ _ _ => pts_nil) (fun _ _ _ _ _ => pe_ix ix_seq (pv 9) pe_int (fun _ _ => rfl))) pa_nil))))
      (pss_cons (ps_setLc (i := 6) (own := [("_law_side", 11)]) rfl sc__law_fair.nd rfl rfl (sw_true rfl rfl rfl (by decide +kernel)) (pi_range1 (by rfl) B.n_range (pa_cons pe_int pa_nil)) (blkOk_by (N := N__law_fair) (sc := defScope s__law_fair) (by decide +kernel)) (fun _ _ _ _ _ => (pg_name (i := 11) sc__law_fair.nd rfl (.inr rfl))) (fun _ _ _ _ _ => pts_nil) (fun _ _ _ _ _ => pe_lc (own := [("_law_number", 8), ("_law_road", 9)]) rfl sc__law_fair.nd (PI.or (pi_enum (by rfl) B.n_enumerate (pa_cons (pv 1) pa_nil)) (Un.pi_enumT (by rfl) B.n_enumerate (pa_cons (pv 1) pa_nil))) (blkOk_in (N := N__law_fair) rfl (by decide +kernel)) (fun _ _ _ _ _ => (PG.or (pg_tup rfl (pgs_cons (pg_name (i := 8) sc__law_fair.nd rfl (.inl rfl)) (pgs_cons (pg_name (i := 9) sc__law_fair.nd rfl (.inl rfl)) pgs_nil))) (pg_unl rfl (pgs_cons (pg_name (i := 8) sc__law_fair.nd rfl (.inl rfl)) (pgs_cons (pg_name (i := 9) sc__law_fair.nd rfl (.inl rfl)) pgs_nil))))) (fun _ _ _ _ _ => pts_one (pt_cmpR op_isU (pe_ix ix_seq (pv 9) (pv 11) (fun _ _ => rfl)) pe_non (nomark _))) (fun _ _ _ _ _ => (pv 8))))
      (pss_cons (ps_set (i := 7) sc__law_fair.nd rfl (.inl rfl) (pe_lst pa_nil))
      (pss_cons (ps_for PassesOwn.never rfl (PI.or (pi_enum (by rfl) B.n_enumerate (pa_cons (pv 1) pa_nil)) (Un.pi_enumT (by rfl) B.n_enumerate (pa_cons (pv 1) pa_nil))) (PG.or (pg_tup rfl (pgs_cons (pg_name (i := 8) sc__law_fair.nd rfl (.inl rfl)) (pgs_cons (pg_name (i := 9) sc__law_fair.nd rfl (.inl rfl)) pgs_nil))) (pg_unl rfl (pgs_cons (pg_name (i := 8) sc__law_fair.nd rfl (.inl rfl)) (pgs_cons (pg_name (i := 9) sc__law_fair.nd rfl (.inl rfl)) pgs_nil)))) (pss_cons (ps_set (i := 10) sc__law_fair.nd rfl (.inl rfl) (pe_lst pa_nil))
      (pss_cons (ps_for PassesOwn.never rfl (pi_range1 (by rfl) B.n_range (pa_cons pe_int pa_nil)) (pg_name (i := 11) sc__law_fair.nd rfl (.inl rfl)) (pss_one (ps_expr (pe_bm PySem.F.plainAttrs_list PySem.F.slot_list_append PySem.F.type_list_append mt_append (pv 10) (pa_cons (pe_ifExp (pt_cmpR op_notU (pe_ix ix_seq (pv 9) (pv 11) (fun _ _ => rfl)) pe_non (nomark _)) (pe_ix ix_seq (pv 9) (pv 11) (fun _ _ => rfl)) (pe_op op_addU (pv 4) (PE.or (pe_bmF PySem.F.slot_tuple_index PySem.F.type_tuple_index (mt_indexF (u65 hr)) (pe_ix ix_seq (pv 6) (pv 11) (fun _ _ => rfl)) (pa_cons (pv 8) pa_nil)) (pe_bm PySem.F.plainAttrs_list PySem.F.slot_list_index PySem.F.type_list_index (mt_indexD (u65 hr)) (pe_ix ix_seq (pv 6) (pv 11) (fun _ _ => rfl)) (pa_cons (pv 8) pa_nil))))) pa_nil)))))
      (pss_one (ps_expr (pe_bm PySem.F.plainAttrs_list PySem.F.slot_list_append PySem.F.type_list_append mt_append (pv 7) (pa_cons (pe_tupF (pa_cons (pe_ix ix_seq (pv 10) pe_int (fun _ _ => rfl)) (pa_cons (pe_ix ix_seq (pv 10) pe_int (fun _ _ => rfl)) (pa_cons (pe_ix ix_seq (pv 9) pe_int (fun _ _ => rfl)) pa_nil)))) pa_nil)))))))
      (pss_cons (ps_par (i := 12) (j := 13) rfl sc__law_fair.nd rfl rfl (by decide) rfl rfl (pa_cons (pe_lst pa_nil) (pa_cons (pe_lst pa_nil) pa_nil)) rfl)
      (pss_cons (ps_for PassesOwn.never rfl (pi_range1 (by rfl) B.n_range (pa_cons (pv 4) pa_nil)) (pg_name (i := 14) sc__law_fair.nd rfl (.inl rfl)) (pss_cons (ps_set (i := 15) sc__law_fair.nd rfl (.inl rfl) (pe_callB call_len_seq (by rfl) B.n_len (by decide +kernel) (pa_cons (pv 7) pa_nil)))
      (pss_cons (ps_set (i := 7) sc__law_fair.nd rfl (.inl rfl) (pe_op op_addU (pv 7) (pe_op op_mulU (pe_lst (pa_cons (pe_tupF (pa_cons (pv 14) (pa_cons (pv 14) (pa_cons (pv 5) pa_nil)))) pa_nil)) pe_int)))
      (pss_cons (ps_expr (pe_bm PySem.F.plainAttrs_list PySem.F.slot_list_append PySem.F.type_list_append mt_append (pv 12) (pa_cons (pe_tupF (pa_cons (pv 5) (pa_cons (pe_op op_addU (pe_op op_addU (pe_tupF (pa_cons (pv 15) pa_nil)) (pe_ix ix_seq (pv 2) (pv 14) (fun _ _ => rfl))) (pe_tupF (pa_cons (pe_op op_addU (pv 15) pe_int) pa_nil))) pa_nil))) pa_nil)))
      (pss_one (ps_expr (pe_bm PySem.F.plainAttrs_list PySem.F.slot_list_append PySem.F.type_list_append mt_append (pv 13) (pa_cons (pe_tupF (pa_cons (pv 5) (pa_cons (pe_op op_addU (pe_op op_addU (pe_tupF (pa_cons (pe_op op_addU (pv 15) pe_int) pa_nil)) (pe_ix ix_seq (pv 3) (pv 14) (fun _ _ => rfl))) (pe_tupF (pa_cons (pv 15) pa_nil))) pa_nil))) pa_nil))))))))
      (pss_cons (ps_set (i := 12) sc__law_fair.nd rfl (.inl rfl) (pe_op op_addU (pv 12) (pe_lc (own := [("_law_number", 8)]) rfl sc__law_fair.nd (PI.or (pi_list (pe_ix ix_seq (pv 6) pe_int (fun _ _ => rfl))) (pi_tup (pe_ix ix_seq (pv 6) pe_int (fun _ _ => rfl)))) (blkOk_by (N := N__law_fair) (sc := defScope s__law_fair) (by decide +kernel)) (fun _ _ _ _ _ => (pg_name (i := 8) sc__law_fair.nd rfl (.inl rfl))) (fun _ _ _ _ _ => pts_nil) (fun _ _ _ _ _ => pe_tupF (pa_cons (pe_ix ix_seq (pe_ix ix_seq (pv 1) (pv 8) (fun _ _ => rfl)) pe_int (fun _ _ => rfl)) (pa_cons (pe_tupF (pa_cons (pv 8) pa_nil)) pa_nil))))))
      (pss_cons (ps_set (i := 13) sc__law_fair.nd rfl (.inl rfl) (pe_op op_addU (pv 13) (pe_lc (own := [("_law_number", 8)]) rfl sc__law_fair.nd (PI.or (pi_list (pe_ix ix_seq (pv 6) pe_int (fun _ _ => rfl))) (pi_tup (pe_ix ix_seq (pv 6) pe_int (fun _ _ => rfl)))) (blkOk_by (N := N__law_fair) (sc := defScope s__law_fair) (by decide +kernel)) (fun _ _ _ _ _ => (pg_name (i := 8) sc__law_fair.nd rfl (.inl rfl))) (fun _ _ _ _ _ => pts_nil) (fun _ _ _ _ _ => pe_tupF (pa_cons (pe_ix ix_seq (pe_ix ix_seq (pv 1) (pv 8) (fun _ _ => rfl)) pe_int (fun _ _ => rfl)) (pa_cons (pe_tupF (pa_cons (pv 8) pa_nil)) pa_nil))))))
      (pss_one (ps_ret (pe_tupF (pa_cons (pe_callTy cr_tupF (by rfl) B.n_tuple (by decide +kernel) (pa_cons (pv 7) pa_nil)) (pa_cons (pe_callTy cr_tupF (by rfl) B.n_tuple (by decide +kernel) (pa_cons (pv 12) pa_nil)) (pa_cons (pe_callTy cr_tupF (by rfl) B.n_tuple (by decide +kernel) (pa_cons (pv 13) pa_nil)) pa_nil)))))))))))))))
theorem eq_F__law_draw_b : F__law_draw_b = runW 1 3 X__law_draw_b := by unfold F__law_draw_b; rfl
theorem c__law_draw (F : Dfn K mg "_law_draw" s__law_draw ["_law_deck_here", "_law_many"]) (B : Bm mg) : CalG P w K mg base 1 "_law_draw" (spW F__law_draw_b) := by
  rw [eq_F__law_draw_b]
  refine cal_g F sc__law_draw (fun vs H Q E h => len_W h) (fun f cdv A outer s H E hG hr => ⟨T__law_draw_b, ?_, fun vs Q h => go_W (n := 1) (k := 3) ss__law_draw_b rfl h⟩)
  unfold T__law_draw_b
  exact pss_cons (ps_asg (pe_op op_addU (pe_ix ix_seq (pv 0) pe_int (fun _ _ => rfl)) pe_int) (pg_sub (pv 0) pe_int set_list))
      (pss_cons (ps_set (i := 2) sc__law_draw.nd rfl (.inl rfl) pe_int)
      (pss_cons (ps_if (pt_cmpR op_gt (pe_callB call_len_seq (by rfl) B.n_len (by decide +kernel) (pa_cons (pe_ix ix_seq (pv 0) pe_int (fun _ _ => rfl)) pa_nil)) pe_int (nomark _)) (pss_cons (ps_set (i := 3) sc__law_draw.nd rfl (.inl rfl) (pe_op op_mod (pe_ix ix_seq (pv 0) pe_int (fun _ _ => rfl)) (pe_callB call_len_seq (by rfl) B.n_len (by decide +kernel) (pa_cons (pe_ix ix_seq (pv 0) pe_int (fun _ _ => rfl)) pa_nil))))
      (pss_cons (ps_set (i := 2) sc__law_draw.nd rfl (.inl rfl) (pe_ix ix_seq (pe_ix ix_seq (pv 0) pe_int (fun _ _ => rfl)) (pv 3) (fun _ _ => rfl)))
      (pss_one (ps_if (pt_cmpR op_ge (pv 2) (pe_op op_pow pe_int pe_int) (nomark _)) (pss_cons (ps_asg (pe_op op_fdivW (pv 2) (pv 1)) (pg_sub (pe_ix ix_seq (pv 0) pe_int (fun _ _ => rfl)) (pv 3) set_list))
      (pss_one (ps_ret (pe_op op_mod (pv 2) (pv 1))))) pss_nil)))) pss_nil)
      (pss_cons (ps_set (i := 4) sc__law_draw.nd rfl (.inl rfl) (pe_op op_mod (pe_op op_pow (pe_op op_addU (pe_op op_addU (pe_op op_mod (pv 2) pe_int) (pe_op op_mulU pe_int (pe_ix ix_seq (pv 0) pe_int (fun _ _ => rfl)))) pe_int) pe_int) pe_int))
      (pss_one (ps_ret (pe_op op_mod (pe_op op_fdivW (pv 4) pe_int) (pv 1)))))))
theorem eq_F__law_ends_c : F__law_ends_c = runW 1 2 X__law_ends_c := by unfold F__law_ends_c; rfl
theorem c__law_ends (F : Dfn K mg "_law_ends" s__law_ends ["_law_deck_here", "_law_many"]) (B : Bm mg) (c__law_draw : CalG P w K mg base 1 "_law_draw" (spW F__law_draw_b)) : CalG P w K mg base 2 "_law_ends" (spW F__law_ends_c) := by
  rw [eq_F__law_ends_c]
  refine cal_g F sc__law_ends (fun vs H Q E h => len_W h) (fun f cdv A outer s H E hG hr => ⟨T__law_ends_c, ?_, fun vs Q h => go_W (n := 1) (k := 2) ss__law_ends_c rfl h⟩)
  unfold T__law_ends_c
  exact pss_cons (ps_par (i := 2) (j := 3) rfl sc__law_ends.nd rfl rfl (by decide) rfl rfl (pa_cons (pe_g c__law_draw hr (by decide) hG (by rfl) (pa_cons (pv 0) (pa_cons pe_int pa_nil))) (pa_cons (pe_g c__law_draw hr (by decide) hG (by rfl) (pa_cons (pv 0) (pa_cons (pv 1) pa_nil))) pa_nil)) rfl)
      (pss_cons (ps_if (PW.pt (pw_or (pt_cmpR (op_eqD hr.units) (pv 2) pe_int (nomark _)) (pw_or1 (PW.pt (pw_and (pt_cmpR (op_eqD hr.units) (pv 1) pe_int (nomark _)) (pw_and1 (pt_cmpR op_lt (pv 2) pe_int (nomark _)))))))) (pss_one (ps_ret (pe_tupF (pa_cons pe_non (pa_cons (pv 3) pa_nil))))) pss_nil)
      (pss_cons (ps_if (PW.pt (pw_or (pt_cmpR (op_eqD hr.units) (pv 2) pe_int (nomark _)) (pw_or1 (pt_cmpR (op_eqD hr.units) (pv 1) pe_int (nomark _))))) (pss_one (ps_ret (pe_tupF (pa_cons (pv 3) (pa_cons pe_non pa_nil))))) pss_nil)
      (pss_one (ps_ret (pe_tupF (pa_cons (pv 3) (pa_cons (pe_op op_mod (pe_op op_addU (pe_op op_addU (pv 3) pe_int) (pe_g c__law_draw hr (by decide) hG (by rfl) (pa_cons (pv 0) (pa_cons (pe_op op_sub (pv 1) pe_int) pa_nil)))) (pv 1)) pa_nil)))))))
theorem eq_F__law_shuffled : F__law_shuffled = runW 1 2 X__law_shuffled := by unfold F__law_shuffled; rfl
theorem c__law_shuffled (F : Dfn K mg "_law_shuffled" s__law_shuffled ["_law_deck_here", "_law_some"]) (B : Bm mg) (c__law_draw : CalG P w K mg base 1 "_law_draw" (spW F__law_draw_b)) : CalG P w K mg base 2 "_law_shuffled" (spW F__law_shuffled) := by
  rw [eq_F__law_shuffled]
  refine cal_g F sc__law_shuffled (fun vs H Q E h => len_W h) (fun f cdv A outer s H E hG hr => ⟨T__law_shuffled, ?_, fun vs Q h => go_W (n := 1) (k := 2) ss__law_shuffled rfl h⟩)
  unfold T__law_shuffled
  exact pss_cons (ps_set (i := 2) sc__law_shuffled.nd rfl (.inl rfl) (pe_callTy call_list_of (by rfl) B.n_list (by decide +kernel) (pa_cons (pv 1) pa_nil)))
      (pss_cons (ps_set (i := 3) sc__law_shuffled.nd rfl (.inl rfl) (pe_lst pa_nil))
      (pss_cons (ps_while PassesOwn.never (pt_cmpR (op_neD hr.units) (pv 2) (pe_lst pa_nil) (nomark _)) (pss_one (ps_expr (pe_bm PySem.F.plainAttrs_list PySem.F.slot_list_append PySem.F.type_list_append mt_append (pv 3) (pa_cons (pe_bm PySem.F.plainAttrs_list PySem.F.slot_list_pop PySem.F.type_list_pop mt_popAt (pv 2) (pa_cons (pe_g c__law_draw hr (by decide) hG (by rfl) (pa_cons (pv 0) (pa_cons (pe_callB call_len_seq (by rfl) B.n_len (by decide +kernel) (pa_cons (pv 2) pa_nil)) pa_nil))) pa_nil)) pa_nil)))))
      (pss_one (ps_ret (pe_callTy cr_tupF (by rfl) B.n_tuple (by decide +kernel) (pa_cons (pv 3) pa_nil))))))
theorem eq_F__law_ordered : F__law_ordered = runW 2 6 X__law_ordered := by unfold F__law_ordered; rfl
theorem c__law_ordered (F : Dfn K mg "_law_ordered" s__law_ordered ["_law_deck_here", "_law_many", "_law_roads"]) (B : Bm mg) (c__law_shuffled : CalG P w K mg base 2 "_law_shuffled" (spW F__law_shuffled)) : CalG P w K mg base 3 "_law_ordered" (spW F__law_ordered) := by
  rw [eq_F__law_ordered]
  refine cal_g F sc__law_ordered (fun vs H Q E h => len_W h) (fun f cdv A outer s H E hG hr => ⟨T__law_ordered, ?_, fun vs Q h => go_W (n := 2) (k := 6) ss__law_ordered rfl h⟩)
  unfold T__law_ordered
  exact pss_cons (ps_set (i := 3) sc__law_ordered.nd rfl (.inl rfl) (pe_lst (pa_cons (pe_lst pa_nil) (pa_cons (pe_lst pa_nil) pa_nil))))
      (pss_cons (ps_for PassesOwn.never rfl (pi_range1 (by rfl) B.n_range (pa_cons pe_int pa_nil)) (pg_name (i := 4) sc__law_ordered.nd rfl (.inr rfl)) (pss_one (ps_for PassesOwn.never rfl (pi_range1 (by rfl) B.n_range (pa_cons (pv 1) pa_nil)) (pg_name (i := 5) sc__law_ordered.nd rfl (.inr rfl)) (pss_cons (ps_setLc (i := 6) (own := [("_law_number", 7), ("_law_road", 8)]) rfl sc__law_ordered.nd rfl rfl (sw_true rfl rfl rfl (by decide +kernel)) (PI.or (pi_enum (by rfl) B.n_enumerate (pa_cons (pv 2) pa_nil)) (Un.pi_enumT (by rfl) B.n_enumerate (pa_cons (pv 2) pa_nil))) (blkOk_by (N := N__law_ordered) (sc := defScope s__law_ordered) (by decide +kernel)) (fun _ _ _ _ _ => (PG.or (pg_tup rfl (pgs_cons (pg_name (i := 7) sc__law_ordered.nd rfl (.inl rfl)) (pgs_cons (pg_name (i := 8) sc__law_ordered.nd rfl (.inl rfl)) pgs_nil))) (pg_unl rfl (pgs_cons (pg_name (i := 7) sc__law_ordered.nd rfl (.inl rfl)) (pgs_cons (pg_name (i := 8) sc__law_ordered.nd rfl (.inl rfl)) pgs_nil))))) (fun _ _ _ _ _ => pts_one (pt_cmpR (op_eqD hr.units) (pe_ix ix_seq (pv 8) (pv 4) (fun _ _ => rfl)) (pv 5) (nomark _))) (fun _ _ _ _ _ => (pv 7)))
      (pss_one (ps_expr (pe_bm PySem.F.plainAttrs_list PySem.F.slot_list_append PySem.F.type_list_append mt_append (pe_ix ix_seq (pv 3) (pv 4) (fun _ _ => rfl)) (pa_cons (pe_g c__law_shuffled hr (by decide) hG (by rfl) (pa_cons (pv 0) (pa_cons (pv 6) pa_nil))) pa_nil))))))))
      (pss_one (ps_ret (pe_tupF (pa_cons (pe_callTy cr_tupF (by rfl) B.n_tuple (by decide +kernel) (pa_cons (pv 2) pa_nil)) (pa_cons (pe_callTy cr_tupF (by rfl) B.n_tuple (by decide +kernel) (pa_cons (pe_ix ix_seq (pv 3) pe_int (fun _ _ => rfl)) pa_nil)) (pa_cons (pe_callTy cr_tupF (by rfl) B.n_tuple (by decide +kernel) (pa_cons (pe_ix ix_seq (pv 3) pe_int (fun _ _ => rfl)) pa_nil)) pa_nil)))))))
theorem eq_F__law_room_d : F__law_room_d = runW 0 2 X__law_room_d := by unfold F__law_room_d; rfl
theorem c__law_room (F : Dfn K mg "_law_room" s__law_room ["_law_deck_here"]) (B : Bm mg) (c__law_draw : CalG P w K mg base 1 "_law_draw" (spW F__law_draw_b)) : CalG P w K mg base 2 "_law_room" (spW F__law_room_d) := by
  rw [eq_F__law_room_d]
  refine cal_g F sc__law_room (fun vs H Q E h => len_W h) (fun f cdv A outer s H E hG hr => ⟨T__law_room_d, ?_, fun vs Q h => go_W (n := 0) (k := 2) ss__law_room_d rfl h⟩)
  unfold T__law_room_d
  exact pss_cons (ps_set (i := 1) sc__law_room.nd rfl (.inl rfl) (pe_op op_pow pe_int pe_int))
      (pss_cons (ps_set (i := 2) sc__law_room.nd rfl (.inl rfl) (pe_lst (pa_cons pe_int (pa_cons pe_int (pa_cons (pe_op op_addU pe_int (pe_g c__law_draw hr (by decide) hG (by rfl) (pa_cons (pv 0) (pa_cons pe_int pa_nil)))) (pa_cons (pe_op op_addU pe_int (pe_g c__law_draw hr (by decide) hG (by rfl) (pa_cons (pv 0) (pa_cons pe_int pa_nil)))) (pa_cons (pe_op op_addU pe_int (pe_g c__law_draw hr (by decide) hG (by rfl) (pa_cons (pv 0) (pa_cons (pv 1) pa_nil)))) pa_nil)))))))
      (pss_cons (ps_expr (pe_bm PySem.F.plainAttrs_list PySem.F.slot_list_append PySem.F.type_list_append mt_append (pv 2) (pa_cons (pe_op op_sub (pv 1) (pe_g c__law_draw hr (by decide) hG (by rfl) (pa_cons (pv 0) (pa_cons pe_int pa_nil)))) pa_nil)))
      (pss_one (ps_ret (pe_ix ix_seq (pv 2) (pe_g c__law_draw hr (by decide) hG (by rfl) (pa_cons (pv 0) (pa_cons pe_int pa_nil))) (fun _ _ => rfl))))))
theorem eq_F__law_rounded : F__law_rounded = runW 0 5 X__law_rounded := by unfold F__law_rounded; rfl
theorem c__law_rounded (F : Dfn K mg "_law_rounded" s__law_rounded ["_law_deck_here"]) (B : Bm mg) (c__law_room : CalG P w K mg base 2 "_law_room" (spW F__law_room_d)) (c__law_shuffled : CalG P w K mg base 2 "_law_shuffled" (spW F__law_shuffled)) : CalG P w K mg base 3 "_law_rounded" (spW F__law_rounded) := by
  rw [eq_F__law_rounded]
  refine cal_g F sc__law_rounded (fun vs H Q E h => len_W h) (fun f cdv A outer s H E hG hr => ⟨T__law_rounded, ?_, fun vs Q h => go_W (n := 0) (k := 5) ss__law_rounded rfl h⟩)
  unfold T__law_rounded
  exact pss_cons (ps_setLc (i := 1) (own := [("_law_k", 5)]) rfl sc__law_rounded.nd rfl rfl (sw_true rfl rfl rfl (by decide +kernel)) (pi_range1 (by rfl) B.n_range (pa_cons pe_int pa_nil)) (blkOk_by (N := N__law_rounded) (sc := defScope s__law_rounded) (by decide +kernel)) (fun _ _ _ _ _ => (pg_name (i := 5) sc__law_rounded.nd rfl (.inl rfl))) (fun _ _ _ _ _ => pts_nil) (fun _ _ _ _ _ => pe_g c__law_room hr (by decide) hG (by rfl) (pa_cons (pv 0) pa_nil)))
      (pss_cons (ps_set (i := 2) sc__law_rounded.nd rfl (.inl rfl) (pe_lst (pa_cons (pe_tupF (pa_cons pe_int (pa_cons pe_int (pa_cons (pe_ix ix_seq (pv 1) pe_int (fun _ _ => rfl)) pa_nil)))) (pa_cons (pe_tupF (pa_cons pe_int (pa_cons pe_int (pa_cons (pe_ix ix_seq (pv 1) pe_int (fun _ _ => rfl)) pa_nil)))) (pa_cons (pe_tupF (pa_cons pe_int (pa_cons pe_int (pa_cons (pe_ix ix_seq (pv 1) pe_int (fun _ _ => rfl)) pa_nil)))) (pa_cons (pe_tupF (pa_cons pe_int (pa_cons pe_int (pa_cons (pe_ix ix_seq (pv 1) pe_int (fun _ _ => rfl)) pa_nil)))) (pa_cons (pe_tupF (pa_cons pe_non (pa_cons pe_int (pa_cons (pe_ix ix_seq (pv 1) pe_int (fun _ _ => rfl)) pa_nil)))) pa_nil)))))))
      (pss_cons (ps_set (i := 2) sc__law_rounded.nd rfl (.inl rfl) (pe_op op_addU (pv 2) (pe_lst (pa_cons (pe_tupF (pa_cons pe_int (pa_cons pe_non (pa_cons (pe_ix ix_seq (pv 1) pe_int (fun _ _ => rfl)) pa_nil)))) (pa_cons (pe_tupF (pa_cons pe_non (pa_cons pe_int (pa_cons (pe_ix ix_seq (pv 1) pe_int (fun _ _ => rfl)) pa_nil)))) (pa_cons (pe_tupF (pa_cons pe_int (pa_cons pe_non (pa_cons (pe_ix ix_seq (pv 1) pe_int (fun _ _ => rfl)) pa_nil)))) pa_nil))))))
      (pss_cons (ps_set (i := 3) sc__law_rounded.nd rfl (.inl rfl) (pe_tupF (pa_cons (pe_g c__law_shuffled hr (by decide) hG (by rfl) (pa_cons (pv 0) (pa_cons (pe_lst (pa_cons pe_int (pa_cons pe_int (pa_cons pe_int pa_nil)))) pa_nil))) (pa_cons (pe_g c__law_shuffled hr (by decide) hG (by rfl) (pa_cons (pv 0) (pa_cons (pe_lst (pa_cons pe_int (pa_cons pe_int (pa_cons pe_int pa_nil)))) pa_nil))) pa_nil))))
      (pss_cons (ps_set (i := 4) sc__law_rounded.nd rfl (.inl rfl) (pe_tupF (pa_cons (pe_g c__law_shuffled hr (by decide) hG (by rfl) (pa_cons (pv 0) (pa_cons (pe_lst (pa_cons pe_int (pa_cons pe_int (pa_cons pe_int pa_nil)))) pa_nil))) (pa_cons (pe_g c__law_shuffled hr (by decide) hG (by rfl) (pa_cons (pv 0) (pa_cons (pe_lst (pa_cons pe_int (pa_cons pe_int (pa_cons pe_int pa_nil)))) pa_nil))) pa_nil))))
      (pss_one (ps_ret (pe_tupF (pa_cons (pe_callTy cr_tupF (by rfl) B.n_tuple (by decide +kernel) (pa_cons (pv 2) pa_nil)) (pa_cons (pv 3) (pa_cons (pv 4) pa_nil))))))))))
theorem eq_F__law_far : F__law_far = runW 0 4 X__law_far := by unfold F__law_far; rfl
theorem c__law_far (F : Dfn K mg "_law_far" s__law_far ["_law_deck_here"]) (B : Bm mg) (c__law_draw : CalG P w K mg base 1 "_law_draw" (spW F__law_draw_b)) (c__law_ends : CalG P w K mg base 2 "_law_ends" (spW F__law_ends_c)) (c__law_ordered : CalG P w K mg base 3 "_law_ordered" (spW F__law_ordered)) (c__law_room : CalG P w K mg base 2 "_law_room" (spW F__law_room_d)) (c__law_rounded : CalG P w K mg base 3 "_law_rounded" (spW F__law_rounded)) : CalG P w K mg base 4 "_law_far" (spW F__law_far) := by
  rw [eq_F__law_far]
  refine cal_g F sc__law_far (fun vs H Q E h => len_W h) (fun f cdv A outer s H E hG hr => ⟨T__law_far, ?_, fun vs Q h => go_W (n := 0) (k := 4) ss__law_far rfl h⟩)
  unfold T__law_far
  exact pss_cons (ps_set (i := 1) sc__law_far.nd rfl (.inr rfl) (pe_op op_addU pe_int (pe_g c__law_draw hr (by decide) hG (by rfl) (pa_cons (pv 0) (pa_cons pe_int pa_nil)))))
      (pss_cons (ps_setLc (i := 2) (own := [("_law_k", 4)]) rfl sc__law_far.nd rfl rfl (sw_true rfl rfl rfl (by decide +kernel)) (pi_range1 (by rfl) B.n_range (pa_cons (pe_op op_addU pe_int (pe_g c__law_draw hr (by decide) hG (by rfl) (pa_cons (pv 0) (pa_cons pe_int pa_nil)))) pa_nil)) (blkOk_by (N := N__law_far) (sc := defScope s__law_far) (by decide +kernel)) (fun _ _ _ _ _ => (pg_name (i := 4) sc__law_far.nd rfl (.inl rfl))) (fun _ _ _ _ _ => pts_nil) (fun _ _ _ _ _ => pe_op op_addU (pe_g c__law_ends hr (by decide) hG (by rfl) (pa_cons (pv 0) (pa_cons (pv 1) pa_nil))) (pe_tupF (pa_cons (pe_g c__law_room hr (by decide) hG (by rfl) (pa_cons (pv 0) pa_nil)) pa_nil))))
      (pss_cons (ps_set (i := 3) sc__law_far.nd rfl (.inl rfl) (pe_g c__law_ordered hr (by decide) hG (by rfl) (pa_cons (pv 0) (pa_cons (pv 1) (pa_cons (pv 2) pa_nil)))))
      (pss_one (ps_ret (pe_ifExp (pt_cmpR (op_eqD hr.units) (pe_g c__law_draw hr (by decide) hG (by rfl) (pa_cons (pv 0) (pa_cons pe_int pa_nil))) pe_int (nomark _)) (pe_g c__law_rounded hr (by decide) hG (by rfl) (pa_cons (pv 0) pa_nil)) (pv 3))))))
theorem eq_F__law_fullest : F__law_fullest = runW 0 2 X__law_fullest := by unfold F__law_fullest; rfl
theorem c__law_fullest (F : Dfn K mg "_law_fullest" s__law_fullest ["_law_deck_here"]) (B : Bm mg) (c__law_ends : CalG P w K mg base 2 "_law_ends" (spW F__law_ends_c)) (c__law_ordered : CalG P w K mg base 3 "_law_ordered" (spW F__law_ordered)) : CalG P w K mg base 4 "_law_fullest" (spW F__law_fullest) := by
  rw [eq_F__law_fullest]
  refine cal_g F sc__law_fullest (fun vs H Q E h => len_W h) (fun f cdv A outer s H E hG hr => ⟨T__law_fullest, ?_, fun vs Q h => go_W (n := 0) (k := 2) ss__law_fullest rfl h⟩)
  unfold T__law_fullest
  exact pss_cons (ps_setLc (i := 1) (own := [("_law_k", 2)]) rfl sc__law_fullest.nd rfl rfl (sw_true rfl rfl rfl (by decide +kernel)) (pi_range1 (by rfl) B.n_range (pa_cons pe_int pa_nil)) (blkOk_by (N := N__law_fullest) (sc := defScope s__law_fullest) (by decide +kernel)) (fun _ _ _ _ _ => (pg_name (i := 2) sc__law_fullest.nd rfl (.inl rfl))) (fun _ _ _ _ _ => pts_nil) (fun _ _ _ _ _ => pe_op op_addU (pe_g c__law_ends hr (by decide) hG (by rfl) (pa_cons (pv 0) (pa_cons pe_int pa_nil))) (pe_tupF (pa_cons (pe_op op_pow pe_int pe_int) pa_nil))))
      (pss_one (ps_ret (pe_g c__law_ordered hr (by decide) hG (by rfl) (pa_cons (pv 0) (pa_cons pe_int (pa_cons (pv 1) pa_nil))))))
theorem eq_F__law_small : F__law_small = runW 0 5 X__law_small := by unfold F__law_small; rfl
theorem c__law_small (F : Dfn K mg "_law_small" s__law_small ["_law_deck_here"]) (B : Bm mg) (c__law_draw : CalG P w K mg base 1 "_law_draw" (spW F__law_draw_b)) (c__law_ends : CalG P w K mg base 2 "_law_ends" (spW F__law_ends_c)) (c__law_ordered : CalG P w K mg base 3 "_law_ordered" (spW F__law_ordered)) : CalG P w K mg base 4 "_law_small" (spW F__law_small) := by
  rw [eq_F__law_small]
  refine cal_g F sc__law_small (fun vs H Q E h => len_W h) (fun f cdv A outer s H E hG hr => ⟨T__law_small, ?_, fun vs Q h => go_W (n := 0) (k := 5) ss__law_small rfl h⟩)
  unfold T__law_small
  exact pss_cons (ps_set (i := 1) sc__law_small.nd rfl (.inl rfl) (pe_op op_addU pe_int (pe_g c__law_draw hr (by decide) hG (by rfl) (pa_cons (pv 0) (pa_cons pe_int pa_nil)))))
      (pss_cons (ps_set (i := 2) sc__law_small.nd rfl (.inl rfl) (pe_lst pa_nil))
      (pss_cons (ps_set (i := 3) sc__law_small.nd rfl (.inl rfl) pe_int)
      (pss_cons (ps_for PassesOwn.never rfl (pi_range1 (by rfl) B.n_range (pa_cons (pe_op op_addU pe_int (pe_g c__law_draw hr (by decide) hG (by rfl) (pa_cons (pv 0) (pa_cons pe_int pa_nil)))) pa_nil)) (pg_name (i := 4) sc__law_small.nd rfl (.inl rfl)) (pss_cons (ps_set (i := 5) sc__law_small.nd rfl (.inl rfl) (pe_ix ix_seq (pe_lst (pa_cons pe_int (pa_cons pe_int (pa_cons pe_int (pa_cons pe_int (pa_cons pe_int (pa_cons pe_int pa_nil))))))) (pe_g c__law_draw hr (by decide) hG (by rfl) (pa_cons (pv 0) (pa_cons pe_int pa_nil))) (fun _ _ => rfl)))
      (pss_cons (ps_if (pt_cmpR op_gt (pe_op op_mulU (pv 3) (pe_op op_addU (pv 5) pe_int)) pe_int (nomark _)) (pss_one (ps_set (i := 5) sc__law_small.nd rfl (.inl rfl) pe_int)) pss_nil)
      (pss_cons (ps_set (i := 3) sc__law_small.nd rfl (.inl rfl) (pe_op op_mulU (pv 3) (pe_op op_addU (pv 5) pe_int)))
      (pss_one (ps_expr (pe_bm PySem.F.plainAttrs_list PySem.F.slot_list_append PySem.F.type_list_append mt_append (pv 2) (pa_cons (pe_op op_addU (pe_g c__law_ends hr (by decide) hG (by rfl) (pa_cons (pv 0) (pa_cons (pv 1) pa_nil))) (pe_tupF (pa_cons (pv 5) pa_nil))) pa_nil))))))))
      (pss_one (ps_ret (pe_g c__law_ordered hr (by decide) hG (by rfl) (pa_cons (pv 0) (pa_cons (pv 1) (pa_cons (pv 2) pa_nil)))))))))
theorem eq_F_big_of : F_big_of = runP 1 3 X_big_of := by unfold F_big_of; rfl
theorem c_big_of (F : Dfn K mg "big_of" s_big_of ["web"]) (B : Bm mg) : CalG P w K mg base 1 "big_of" (spF F_big_of) := by
  rw [eq_F_big_of]
  refine cal_g F sc_big_of (fun vs H Q E h => len_F h) (fun f cdv A outer s H E hG hr => ⟨T_big_of, ?_, fun vs Q h => go_P (n := 1) (k := 3) ss_big_of rfl h⟩)
  unfold T_big_of
  exact pss_one (ps_ret (pe_op op_addU (pe_callB (cr_sum rfl) (by rfl) B.n_sum (by decide +kernel) (pa_cons (pe_lc (own := [("begin", 1), ("end", 2), ("room", 3)]) rfl sc_big_of.nd (PI.or (pi_list (pe_ix ix_seq (pv 0) pe_int (fun _ _ => rfl))) (pi_tup (pe_ix ix_seq (pv 0) pe_int (fun _ _ => rfl)))) (blkOk_by (N := N_big_of) (sc := defScope s_big_of) (by decide +kernel)) (fun _ _ _ _ _ => (PG.or (pg_tup rfl (pgs_cons (pg_name (i := 1) sc_big_of.nd rfl (.inl rfl)) (pgs_cons (pg_name (i := 2) sc_big_of.nd rfl (.inl rfl)) (pgs_cons (pg_name (i := 3) sc_big_of.nd rfl (.inl rfl)) pgs_nil)))) (pg_unl rfl (pgs_cons (pg_name (i := 1) sc_big_of.nd rfl (.inl rfl)) (pgs_cons (pg_name (i := 2) sc_big_of.nd rfl (.inl rfl)) (pgs_cons (pg_name (i := 3) sc_big_of.nd rfl (.inl rfl)) pgs_nil)))))) (fun _ _ _ _ _ => pts_nil) (fun _ _ _ _ _ => (pv 3))) pa_nil)) pe_int))
theorem eq_F_door_seats : F_door_seats = runP 2 1 X_door_seats := by unfold F_door_seats; rfl
theorem c_door_seats (F : Dfn K mg "door_seats" s_door_seats ["web", "roads"]) (B : Bm mg) : CalG P w K mg base 1 "door_seats" (spF F_door_seats) := by
  rw [eq_F_door_seats]
  refine cal_g F sc_door_seats (fun vs H Q E h => len_F h) (fun f cdv A outer s H E hG hr => ⟨T_door_seats, ?_, fun vs Q h => go_P (n := 2) (k := 1) ss_door_seats rfl h⟩)
  unfold T_door_seats
  exact pss_one (ps_ret (pe_lc (own := [("road", 2)]) rfl sc_door_seats.nd (PI.or (pi_list (pv 1)) (pi_tup (pv 1))) (blkOk_by (N := N_door_seats) (sc := defScope s_door_seats) (by decide +kernel)) (fun _ _ _ _ _ => (pg_name (i := 2) sc_door_seats.nd rfl (.inl rfl))) (fun _ _ _ _ _ => pts_nil) (fun _ _ _ _ _ => pe_tupF (pa_cons (pe_ix ix_seq (pe_ix ix_seq (pe_ix ix_seq (pv 0) pe_int (fun _ _ => rfl)) (pv 2) (fun _ _ => rfl)) pe_int (fun _ _ => rfl)) (pa_cons (pe_tupF (pa_cons (pv 2) pa_nil)) pa_nil)))))
theorem eq_F_in_doors : F_in_doors = runP 1 2 X_in_doors := by unfold F_in_doors; rfl
theorem c_in_doors (F : Dfn K mg "in_doors" s_in_doors ["web"]) (B : Bm mg) : CalG P w K mg base 1 "in_doors" (spF F_in_doors) := by
  rw [eq_F_in_doors]
  refine cal_g F sc_in_doors (fun vs H Q E h => len_F h) (fun f cdv A outer s H E hG hr => ⟨T_in_doors, ?_, fun vs Q h => go_P (n := 1) (k := 2) ss_in_doors rfl h⟩)
  unfold T_in_doors
  exact pss_one (ps_ret (pe_callTy cr_tupF (by rfl) B.n_tuple (by decide +kernel) (pa_cons (pe_lc (own := [("number", 1), ("road", 2)]) rfl sc_in_doors.nd (PI.or (pi_enum (by rfl) B.n_enumerate (pa_cons (pe_ix ix_seq (pv 0) pe_int (fun _ _ => rfl)) pa_nil)) (Un.pi_enumT (by rfl) B.n_enumerate (pa_cons (pe_ix ix_seq (pv 0) pe_int (fun _ _ => rfl)) pa_nil))) (blkOk_by (N := N_in_doors) (sc := defScope s_in_doors) (by decide +kernel)) (fun _ _ _ _ _ => (PG.or (pg_tup rfl (pgs_cons (pg_name (i := 1) sc_in_doors.nd rfl (.inl rfl)) (pgs_cons (pg_name (i := 2) sc_in_doors.nd rfl (.inl rfl)) pgs_nil))) (pg_unl rfl (pgs_cons (pg_name (i := 1) sc_in_doors.nd rfl (.inl rfl)) (pgs_cons (pg_name (i := 2) sc_in_doors.nd rfl (.inl rfl)) pgs_nil))))) (fun _ _ _ _ _ => pts_one (pt_cmpR op_isU (pe_ix ix_seq (pv 2) pe_int (fun _ _ => rfl)) pe_non (nomark _))) (fun _ _ _ _ _ => (pv 1))) pa_nil)))
theorem eq_F_lying : F_lying = runP 2 0 X_lying := by unfold F_lying; rfl
theorem c_lying (F : Dfn K mg "lying" s_lying ["web", "house"]) (B : Bm mg) : CalG P w K mg base 1 "lying" (spF F_lying) := by
  rw [eq_F_lying]
  refine cal_g F sc_lying (fun vs H Q E h => len_F h) (fun f cdv A outer s H E hG hr => ⟨T_lying, ?_, fun vs Q h => go_P (n := 2) (k := 0) ss_lying rfl h⟩)
  unfold T_lying
  exact pss_one (ps_ret (pe_op op_addU (pe_callB call_len_seq (by rfl) B.n_len (by decide +kernel) (pa_cons (pe_ix ix_seq (pv 0) pe_int (fun _ _ => rfl)) pa_nil)) (pe_op op_mulU pe_int (pv 1))))
theorem eq_F_standing : F_standing = runP 2 0 X_standing := by unfold F_standing; rfl
theorem c_standing (F : Dfn K mg "standing" s_standing ["web", "house"]) (B : Bm mg) (c_lying : CalG P w K mg base 1 "lying" (spF F_lying)) : CalG P w K mg base 2 "standing" (spF F_standing) := by
  rw [eq_F_standing]
  refine cal_g F sc_standing (fun vs H Q E h => len_F h) (fun f cdv A outer s H E hG hr => ⟨T_standing, ?_, fun vs Q h => go_P (n := 2) (k := 0) ss_standing rfl h⟩)
  unfold T_standing
  exact pss_one (ps_ret (pe_op op_addU (pe_g c_lying hr (by decide) hG (by rfl) (pa_cons (pv 0) (pa_cons (pv 1) pa_nil))) pe_int))
theorem eq_F_givers_of : F_givers_of = runP 1 4 X_givers_of := by unfold F_givers_of; rfl
theorem c_givers_of (F : Dfn K mg "givers_of" s_givers_of ["web"]) (B : Bm mg) (c_big_of : CalG P w K mg base 1 "big_of" (spF F_big_of)) (c_door_seats : CalG P w K mg base 1 "door_seats" (spF F_door_seats)) (c_in_doors : CalG P w K mg base 1 "in_doors" (spF F_in_doors)) (c_lying : CalG P w K mg base 1 "lying" (spF F_lying)) (c_standing : CalG P w K mg base 2 "standing" (spF F_standing)) : CalG P w K mg base 3 "givers_of" (spF F_givers_of) := by
  rw [eq_F_givers_of]
  refine cal_g F sc_givers_of (fun vs H Q E h => len_F h) (fun f cdv A outer s H E hG hr => ⟨T_givers_of, ?_, fun vs Q h => go_P (n := 1) (k := 4) ss_givers_of rfl h⟩)
  unfold T_givers_of
  exact pss_cons (ps_set (i := 1) sc_givers_of.nd rfl (.inr rfl) (pe_g c_big_of hr (by decide) hG (by rfl) (pa_cons (pv 0) pa_nil)))
      (pss_cons (ps_setLc (i := 2) (own := [("house", 3), ("order", 4)]) rfl sc_givers_of.nd rfl rfl (sw_true rfl rfl rfl (by decide +kernel)) (PI.or (pi_enum (by rfl) B.n_enumerate (pa_cons (pe_ix ix_seq (pv 0) pe_int (fun _ _ => rfl)) pa_nil)) (Un.pi_enumT (by rfl) B.n_enumerate (pa_cons (pe_ix ix_seq (pv 0) pe_int (fun _ _ => rfl)) pa_nil))) (blkOk_by (N := N_givers_of) (sc := defScope s_givers_of) (by decide +kernel)) (fun _ _ _ _ _ => (PG.or (pg_tup rfl (pgs_cons (pg_name (i := 3) sc_givers_of.nd rfl (.inl rfl)) (pgs_cons (pg_name (i := 4) sc_givers_of.nd rfl (.inl rfl)) pgs_nil))) (pg_unl rfl (pgs_cons (pg_name (i := 3) sc_givers_of.nd rfl (.inl rfl)) (pgs_cons (pg_name (i := 4) sc_givers_of.nd rfl (.inl rfl)) pgs_nil))))) (fun _ _ _ _ _ => pts_nil) (fun _ _ _ _ _ => pe_tupF (pa_cons (pv 1) (pa_cons (pe_tupF (pa_cons (pe_g c_lying hr (by decide) hG (by rfl) (pa_cons (pv 0) (pa_cons (pv 3) pa_nil))) (StX.pa_star (pv 4) (pa_cons (pe_g c_standing hr (by decide) hG (by rfl) (pa_cons (pv 0) (pa_cons (pv 3) pa_nil))) pa_nil)))) pa_nil))))
      (pss_one (ps_ret (pe_callTy cr_tupF (by rfl) B.n_tuple (by decide +kernel) (pa_cons (pe_op op_addU (pv 2) (pe_g c_door_seats hr (by decide) hG (by rfl) (pa_cons (pv 0) (pa_cons (pe_g c_in_doors hr (by decide) hG (by rfl) (pa_cons (pv 0) pa_nil)) pa_nil)))) pa_nil)))))
theorem eq_F_house_ties : F_house_ties = runP 1 3 X_house_ties := by unfold F_house_ties; rfl
theorem c_house_ties (F : Dfn K mg "house_ties" s_house_ties ["web"]) (B : Bm mg) (c_big_of : CalG P w K mg base 1 "big_of" (spF F_big_of)) : CalG P w K mg base 2 "house_ties" (spF F_house_ties) := by
  rw [eq_F_house_ties]
  refine cal_g F sc_house_ties (fun vs H Q E h => len_F h) (fun f cdv A outer s H E hG hr => ⟨T_house_ties, ?_, fun vs Q h => go_P (n := 1) (k := 3) ss_house_ties rfl h⟩)
  unfold T_house_ties
  exact pss_cons (ps_set (i := 1) sc_house_ties.nd rfl (.inl rfl) (pe_g c_big_of hr (by decide) hG (by rfl) (pa_cons (pv 0) pa_nil)))
      (pss_cons (ps_set (i := 2) sc_house_ties.nd rfl (.inl rfl) (pe_lst pa_nil))
      (pss_cons (ps_for PassesOwn.never rfl (pi_range1 (by rfl) B.n_range (pa_cons (pe_callB call_len_seq (by rfl) B.n_len (by decide +kernel) (pa_cons (pe_ix ix_seq (pv 0) pe_int (fun _ _ => rfl)) pa_nil)) pa_nil)) (pg_name (i := 3) sc_house_ties.nd rfl (.inl rfl)) (pss_one (ps_expr (pe_bm PySem.F.plainAttrs_list PySem.F.slot_list_extend PySem.F.type_list_extend mt_extend (pv 2) (pa_cons (pe_lst (pa_cons (pe_tupF (pa_cons (pv 3) (pa_cons (pv 3) (pa_cons (pv 1) pa_nil)))) (pa_cons (pe_tupF (pa_cons (pv 3) (pa_cons (pv 3) (pa_cons (pv 1) pa_nil)))) pa_nil))) pa_nil)))))
      (pss_one (ps_ret (pe_callTy cr_tupF (by rfl) B.n_tuple (by decide +kernel) (pa_cons (pv 2) pa_nil))))))
theorem eq_F_out_doors : F_out_doors = runP 1 2 X_out_doors := by unfold F_out_doors; rfl
theorem c_out_doors (F : Dfn K mg "out_doors" s_out_doors ["web"]) (B : Bm mg) : CalG P w K mg base 1 "out_doors" (spF F_out_doors) := by
  rw [eq_F_out_doors]
  refine cal_g F sc_out_doors (fun vs H Q E h => len_F h) (fun f cdv A outer s H E hG hr => ⟨T_out_doors, ?_, fun vs Q h => go_P (n := 1) (k := 2) ss_out_doors rfl h⟩)
  unfold T_out_doors
  exact pss_one (ps_ret (pe_callTy cr_tupF (by rfl) B.n_tuple (by decide +kernel) (pa_cons (pe_lc (own := [("number", 1), ("road", 2)]) rfl sc_out_doors.nd (PI.or (pi_enum (by rfl) B.n_enumerate (pa_cons (pe_ix ix_seq (pv 0) pe_int (fun _ _ => rfl)) pa_nil)) (Un.pi_enumT (by rfl) B.n_enumerate (pa_cons (pe_ix ix_seq (pv 0) pe_int (fun _ _ => rfl)) pa_nil))) (blkOk_by (N := N_out_doors) (sc := defScope s_out_doors) (by decide +kernel)) (fun _ _ _ _ _ => (PG.or (pg_tup rfl (pgs_cons (pg_name (i := 1) sc_out_doors.nd rfl (.inl rfl)) (pgs_cons (pg_name (i := 2) sc_out_doors.nd rfl (.inl rfl)) pgs_nil))) (pg_unl rfl (pgs_cons (pg_name (i := 1) sc_out_doors.nd rfl (.inl rfl)) (pgs_cons (pg_name (i := 2) sc_out_doors.nd rfl (.inl rfl)) pgs_nil))))) (fun _ _ _ _ _ => pts_one (pt_cmpR op_isU (pe_ix ix_seq (pv 2) pe_int (fun _ _ => rfl)) pe_non (nomark _))) (fun _ _ _ _ _ => (pv 1))) pa_nil)))
theorem eq_F_road_ties : F_road_ties = runP 1 10 X_road_ties := by unfold F_road_ties; rfl
theorem c_road_ties (F : Dfn K mg "road_ties" s_road_ties ["web"]) (B : Bm mg) (c_in_doors : CalG P w K mg base 1 "in_doors" (spF F_in_doors)) (c_out_doors : CalG P w K mg base 1 "out_doors" (spF F_out_doors)) : CalG P w K mg base 2 "road_ties" (spF F_road_ties) := by
  rw [eq_F_road_ties]
  refine cal_g F sc_road_ties (fun vs H Q E h => len_F h) (fun f cdv A outer s H E hG hr => ⟨T_road_ties, ?_, fun vs Q h => go_P (n := 1) (k := 10) ss_road_ties rfl h⟩)
  unfold T_road_ties
  exact pss_cons (ps_set (i := 1) sc_road_ties.nd rfl (.inl rfl) (pe_g c_in_doors hr (by decide) hG (by rfl) (pa_cons (pv 0) pa_nil)))
      (pss_cons (ps_set (i := 2) sc_road_ties.nd rfl (.inl rfl) (pe_g c_out_doors hr (by decide) hG (by rfl) (pa_cons (pv 0) pa_nil)))
      (pss_cons (ps_set (i := 3) sc_road_ties.nd rfl (.inl rfl) (pe_callB call_len_seq (by rfl) B.n_len (by decide +kernel) (pa_cons (pe_ix ix_seq (pv 0) pe_int (fun _ _ => rfl)) pa_nil)))
      (pss_cons (ps_set (i := 4) sc_road_ties.nd rfl (.inl rfl) (pe_lst pa_nil))
      (pss_cons (ps_for PassesOwn.never rfl (PI.or (pi_enum (by rfl) B.n_enumerate (pa_cons (pe_ix ix_seq (pv 0) pe_int (fun _ _ => rfl)) pa_nil)) (Un.pi_enumT (by rfl) B.n_enumerate (pa_cons (pe_ix ix_seq (pv 0) pe_int (fun _ _ => rfl)) pa_nil))) (PG.or (pg_tup rfl (pgs_cons (pg_name (i := 5) sc_road_ties.nd rfl (.inl rfl)) (pgs_cons (PG.or (pg_tup rfl (pgs_cons (pg_name (i := 6) sc_road_ties.nd rfl (.inl rfl)) (pgs_cons (pg_name (i := 7) sc_road_ties.nd rfl (.inl rfl)) (pgs_cons (pg_name (i := 8) sc_road_ties.nd rfl (.inl rfl)) pgs_nil)))) (pg_unl rfl (pgs_cons (pg_name (i := 6) sc_road_ties.nd rfl (.inl rfl)) (pgs_cons (pg_name (i := 7) sc_road_ties.nd rfl (.inl rfl)) (pgs_cons (pg_name (i := 8) sc_road_ties.nd rfl (.inl rfl)) pgs_nil))))) pgs_nil))) (pg_unl rfl (pgs_cons (pg_name (i := 5) sc_road_ties.nd rfl (.inl rfl)) (pgs_cons (PG.or (pg_tup rfl (pgs_cons (pg_name (i := 6) sc_road_ties.nd rfl (.inl rfl)) (pgs_cons (pg_name (i := 7) sc_road_ties.nd rfl (.inl rfl)) (pgs_cons (pg_name (i := 8) sc_road_ties.nd rfl (.inl rfl)) pgs_nil)))) (pg_unl rfl (pgs_cons (pg_name (i := 6) sc_road_ties.nd rfl (.inl rfl)) (pgs_cons (pg_name (i := 7) sc_road_ties.nd rfl (.inl rfl)) (pgs_cons (pg_name (i := 8) sc_road_ties.nd rfl (.inl rfl)) pgs_nil))))) pgs_nil)))) (pss_cons (ps_set (i := 9) sc_road_ties.nd rfl (.inl rfl) (pe_ifExp (pt_cmpR op_isU (pv 6) pe_non (nomark _)) (pe_op op_addU (pv 3) (PE.or (pe_bmF PySem.F.slot_tuple_index PySem.F.type_tuple_index (mt_indexF (u65 hr)) (pv 1) (pa_cons (pv 5) pa_nil)) (pe_bm PySem.F.plainAttrs_list PySem.F.slot_list_index PySem.F.type_list_index (mt_indexD (u65 hr)) (pv 1) (pa_cons (pv 5) pa_nil)))) (pv 6)))
      (pss_cons (ps_set (i := 10) sc_road_ties.nd rfl (.inl rfl) (pe_ifExp (pt_cmpR op_isU (pv 7) pe_non (nomark _)) (pe_op op_addU (pv 3) (PE.or (pe_bmF PySem.F.slot_tuple_index PySem.F.type_tuple_index (mt_indexF (u65 hr)) (pv 2) (pa_cons (pv 5) pa_nil)) (pe_bm PySem.F.plainAttrs_list PySem.F.slot_list_index PySem.F.type_list_index (mt_indexD (u65 hr)) (pv 2) (pa_cons (pv 5) pa_nil)))) (pv 7)))
      (pss_one (ps_expr (pe_bm PySem.F.plainAttrs_list PySem.F.slot_list_append PySem.F.type_list_append mt_append (pv 4) (pa_cons (pe_tupF (pa_cons (pv 9) (pa_cons (pv 10) (pa_cons (pv 8) pa_nil)))) pa_nil)))))))
      (pss_one (ps_ret (pe_callTy cr_tupF (by rfl) B.n_tuple (by decide +kernel) (pa_cons (pv 4) pa_nil))))))))
theorem eq_F_takers_of : F_takers_of = runP 1 4 X_takers_of := by unfold F_takers_of; rfl
theorem c_takers_of (F : Dfn K mg "takers_of" s_takers_of ["web"]) (B : Bm mg) (c_big_of : CalG P w K mg base 1 "big_of" (spF F_big_of)) (c_door_seats : CalG P w K mg base 1 "door_seats" (spF F_door_seats)) (c_lying : CalG P w K mg base 1 "lying" (spF F_lying)) (c_out_doors : CalG P w K mg base 1 "out_doors" (spF F_out_doors)) (c_standing : CalG P w K mg base 2 "standing" (spF F_standing)) : CalG P w K mg base 3 "takers_of" (spF F_takers_of) := by
  rw [eq_F_takers_of]
  refine cal_g F sc_takers_of (fun vs H Q E h => len_F h) (fun f cdv A outer s H E hG hr => ⟨T_takers_of, ?_, fun vs Q h => go_P (n := 1) (k := 4) ss_takers_of rfl h⟩)
  unfold T_takers_of
  exact pss_cons (ps_set (i := 1) sc_takers_of.nd rfl (.inr rfl) (pe_g c_big_of hr (by decide) hG (by rfl) (pa_cons (pv 0) pa_nil)))
      (pss_cons (ps_setLc (i := 2) (own := [("house", 3), ("order", 4)]) rfl sc_takers_of.nd rfl rfl (sw_true rfl rfl rfl (by decide +kernel)) (PI.or (pi_enum (by rfl) B.n_enumerate (pa_cons (pe_ix ix_seq (pv 0) pe_int (fun _ _ => rfl)) pa_nil)) (Un.pi_enumT (by rfl) B.n_enumerate (pa_cons (pe_ix ix_seq (pv 0) pe_int (fun _ _ => rfl)) pa_nil))) (blkOk_by (N := N_takers_of) (sc := defScope s_takers_of) (by decide +kernel)) (fun _ _ _ _ _ => (PG.or (pg_tup rfl (pgs_cons (pg_name (i := 3) sc_takers_of.nd rfl (.inl rfl)) (pgs_cons (pg_name (i := 4) sc_takers_of.nd rfl (.inl rfl)) pgs_nil))) (pg_unl rfl (pgs_cons (pg_name (i := 3) sc_takers_of.nd rfl (.inl rfl)) (pgs_cons (pg_name (i := 4) sc_takers_of.nd rfl (.inl rfl)) pgs_nil))))) (fun _ _ _ _ _ => pts_nil) (fun _ _ _ _ _ => pe_tupF (pa_cons (pv 1) (pa_cons (pe_tupF (pa_cons (pe_g c_standing hr (by decide) hG (by rfl) (pa_cons (pv 0) (pa_cons (pv 3) pa_nil))) (StX.pa_star (pv 4) (pa_cons (pe_g c_lying hr (by decide) hG (by rfl) (pa_cons (pv 0) (pa_cons (pv 3) pa_nil))) pa_nil)))) pa_nil))))
      (pss_one (ps_ret (pe_callTy cr_tupF (by rfl) B.n_tuple (by decide +kernel) (pa_cons (pe_op op_addU (pv 2) (pe_g c_door_seats hr (by decide) hG (by rfl) (pa_cons (pv 0) (pa_cons (pe_g c_out_doors hr (by decide) hG (by rfl) (pa_cons (pv 0) pa_nil)) pa_nil)))) pa_nil)))))
theorem eq_F_fair_of : F_fair_of = runP 1 0 X_fair_of := by unfold F_fair_of; rfl
theorem c_fair_of (F : Dfn K mg "fair_of" s_fair_of ["web"]) (B : Bm mg) (c_givers_of : CalG P w K mg base 3 "givers_of" (spF F_givers_of)) (c_house_ties : CalG P w K mg base 2 "house_ties" (spF F_house_ties)) (c_road_ties : CalG P w K mg base 2 "road_ties" (spF F_road_ties)) (c_takers_of : CalG P w K mg base 3 "takers_of" (spF F_takers_of)) : CalG P w K mg base 4 "fair_of" (spF F_fair_of) := by
  rw [eq_F_fair_of]
  refine cal_g F sc_fair_of (fun vs H Q E h => len_F h) (fun f cdv A outer s H E hG hr => ⟨T_fair_of, ?_, fun vs Q h => go_P (n := 1) (k := 0) ss_fair_of rfl h⟩)
  unfold T_fair_of
  exact pss_one (ps_ret (pe_tupF (pa_cons (pe_op op_addU (pe_g c_road_ties hr (by decide) hG (by rfl) (pa_cons (pv 0) pa_nil)) (pe_g c_house_ties hr (by decide) hG (by rfl) (pa_cons (pv 0) pa_nil))) (pa_cons (pe_g c_givers_of hr (by decide) hG (by rfl) (pa_cons (pv 0) pa_nil)) (pa_cons (pe_g c_takers_of hr (by decide) hG (by rfl) (pa_cons (pv 0) pa_nil)) pa_nil)))))
theorem eq_F_is_number : F_is_number = runP 1 0 X_is_number := by unfold F_is_number; rfl
theorem c_is_number (F : Dfn K mg "is_number" s_is_number ["thing"]) (B : Bm mg) : CalG P w K mg base 1 "is_number" (spF F_is_number) := by
  rw [eq_F_is_number]
  refine cal_g F sc_is_number (fun vs H Q E h => len_F h) (fun f cdv A outer s H E hG hr => ⟨T_is_number, ?_, fun vs Q h => go_P (n := 1) (k := 0) ss_is_number rfl h⟩)
  unfold T_is_number
  exact pss_one (ps_ret (pe_and (pe_callB call_isi (by rfl) B.n_isinstance (by decide +kernel) (pa_cons (pv 0) (pa_cons (pe_bltn (v := .ty "int") (by rfl) B.n_int (by decide +kernel) rfl) pa_nil))) (pe_one (pe_not (pe_callB call_isi (by rfl) B.n_isinstance (by decide +kernel) (pa_cons (pv 0) (pa_cons (pe_bltn (v := .ty "bool") (by rfl) B.n_bool (by decide +kernel) rfl) pa_nil)))))))
theorem eq_F_is_number_to : F_is_number_to = runP 2 0 X_is_number_to := by unfold F_is_number_to; rfl
theorem c_is_number_to (F : Dfn K mg "is_number_to" s_is_number_to ["thing", "most"]) (B : Bm mg) (c_is_number : CalG P w K mg base 1 "is_number" (spF F_is_number)) : CalG P w K mg base 2 "is_number_to" (spF F_is_number_to) := by
  rw [eq_F_is_number_to]
  refine cal_g F sc_is_number_to (fun vs H Q E h => len_F h) (fun f cdv A outer s H E hG hr => ⟨T_is_number_to, ?_, fun vs Q h => go_P (n := 2) (k := 0) ss_is_number_to rfl h⟩)
  unfold T_is_number_to
  exact pss_one (ps_ret (pe_and (pe_g c_is_number hr (by decide) hG (by rfl) (pa_cons (pv 0) pa_nil)) (pe_one (pe_chain op_le op_le pe_int (pv 0) (pv 1)))))
theorem eq_F_is_order : F_is_order = runP 2 1 X_is_order := by unfold F_is_order; rfl
theorem c_is_order (F : Dfn K mg "is_order" s_is_order ["thing", "numbers"]) (B : Bm mg) (c_is_number : CalG P w K mg base 1 "is_number" (spF F_is_number)) : CalG P w K mg base 2 "is_order" (spF F_is_order) := by
  rw [eq_F_is_order]
  refine cal_g F sc_is_order (fun vs H Q E h => len_F h) (fun f cdv A outer s H E hG hr => ⟨T_is_order, ?_, fun vs Q h => go_P (n := 2) (k := 1) ss_is_order rfl h⟩)
  unfold T_is_order
  exact pss_one (ps_ret (pe_and (pe_callB call_isi (by rfl) B.n_isinstance (by decide +kernel) (pa_cons (pv 0) (pa_cons (pe_bltn (v := .ty "tuple") (by rfl) B.n_tuple (by decide +kernel) rfl) pa_nil))) (pe_and (pe_callB (cr_all rfl) (by rfl) B.n_all (by decide +kernel) (pa_cons (pe_lc (own := [("number", 2)]) rfl sc_is_order.nd (PI.or (pi_list (pv 0)) (pi_tup (pv 0))) (blkOk_by (N := N_is_order) (sc := defScope s_is_order) (by decide +kernel)) (fun _ _ _ _ _ => (pg_name (i := 2) sc_is_order.nd rfl (.inl rfl))) (fun _ _ _ _ _ => pts_nil) (fun _ _ _ _ _ => pe_g c_is_number hr (by decide) hG (by rfl) (pa_cons (pv 2) pa_nil))) pa_nil)) (pe_one (pe_cmpR (op_eqD hr.units) (pe_callB cr_sortedU (by rfl) B.n_sorted (by decide +kernel) (pa_cons (pv 0) pa_nil)) (pv 1) (nomark _))))))
theorem eq_F_is_tuple_of : F_is_tuple_of = runP 3 0 X_is_tuple_of := by unfold F_is_tuple_of; rfl
theorem c_is_tuple_of (F : Dfn K mg "is_tuple_of" s_is_tuple_of ["thing", "least", "most"]) (B : Bm mg) : CalG P w K mg base 1 "is_tuple_of" (spF F_is_tuple_of) := by
  rw [eq_F_is_tuple_of]
  refine cal_g F sc_is_tuple_of (fun vs H Q E h => len_F h) (fun f cdv A outer s H E hG hr => ⟨T_is_tuple_of, ?_, fun vs Q h => go_P (n := 3) (k := 0) ss_is_tuple_of rfl h⟩)
  unfold T_is_tuple_of
  exact pss_one (ps_ret (pe_and (pe_callB call_isi (by rfl) B.n_isinstance (by decide +kernel) (pa_cons (pv 0) (pa_cons (pe_bltn (v := .ty "tuple") (by rfl) B.n_tuple (by decide +kernel) rfl) pa_nil))) (pe_one (pe_chain op_le op_le (pv 1) (pe_callB call_len_seq (by rfl) B.n_len (by decide +kernel) (pa_cons (pv 0) pa_nil)) (pv 2)))))
theorem eq_F_is_seat : F_is_seat = runP 2 0 X_is_seat := by unfold F_is_seat; rfl
theorem c_is_seat (F : Dfn K mg "is_seat" s_is_seat ["thing", "ties"]) (B : Bm mg) {t_FAR : Tok} (m_FAR : mg "FAR" = some (.int 1000000000000000 t_FAR)) (c_is_number_to : CalG P w K mg base 2 "is_number_to" (spF F_is_number_to)) (c_is_order : CalG P w K mg base 2 "is_order" (spF F_is_order)) (c_is_tuple_of : CalG P w K mg base 1 "is_tuple_of" (spF F_is_tuple_of)) : CalG P w K mg base 3 "is_seat" (spF F_is_seat) := by
  rw [eq_F_is_seat]
  refine cal_g F sc_is_seat (fun vs H Q E h => len_F h) (fun f cdv A outer s H E hG hr => ⟨T_is_seat, ?_, fun vs Q h => go_P (n := 2) (k := 0) ss_is_seat rfl h⟩)
  unfold T_is_seat
  exact pss_one (ps_ret (pe_and (pe_g c_is_tuple_of hr (by decide) hG (by rfl) (pa_cons (pv 0) (pa_cons pe_int (pa_cons pe_int pa_nil)))) (pe_and (pe_g c_is_number_to hr (by decide) hG (by rfl) (pa_cons (pe_ix ix_seq (pv 0) pe_int (fun _ _ => rfl)) (pa_cons (pe_glob (by rfl) m_FAR ⟨_, rfl⟩) pa_nil))) (pe_one (pe_g c_is_order hr (by decide) hG (by rfl) (pa_cons (pe_ix ix_seq (pv 0) pe_int (fun _ _ => rfl)) (pa_cons (pv 1) pa_nil)))))))
theorem eq_F_are_seats : F_are_seats = runP 2 4 X_are_seats := by unfold F_are_seats; rfl
theorem c_are_seats (F : Dfn K mg "are_seats" s_are_seats ["seats", "sitting"]) (B : Bm mg) (c_is_seat : CalG P w K mg base 3 "is_seat" (spF F_is_seat)) : CalG P w K mg base 4 "are_seats" (spF F_are_seats) := by
  rw [eq_F_are_seats]
  refine cal_g F sc_are_seats (fun vs H Q E h => len_F h) (fun f cdv A outer s H E hG hr => ⟨T_are_seats, ?_, fun vs Q h => go_P (n := 2) (k := 4) ss_are_seats rfl h⟩)
  unfold T_are_seats
  exact pss_one (ps_ret (pe_callB (cr_all rfl) (by rfl) B.n_all (by decide +kernel) (pa_cons (pe_lc (own := [("number", 2), ("seat", 3)]) rfl sc_are_seats.nd (PI.or (pi_enum (by rfl) B.n_enumerate (pa_cons (pv 0) pa_nil)) (Un.pi_enumT (by rfl) B.n_enumerate (pa_cons (pv 0) pa_nil))) (blkOk_by (N := N_are_seats) (sc := defScope s_are_seats) (by decide +kernel)) (fun _ _ _ _ _ => (PG.or (pg_tup rfl (pgs_cons (pg_name (i := 2) sc_are_seats.nd rfl (.inr rfl)) (pgs_cons (pg_name (i := 3) sc_are_seats.nd rfl (.inl rfl)) pgs_nil))) (pg_unl rfl (pgs_cons (pg_name (i := 2) sc_are_seats.nd rfl (.inr rfl)) (pgs_cons (pg_name (i := 3) sc_are_seats.nd rfl (.inl rfl)) pgs_nil))))) (fun _ _ _ _ _ => pts_nil) (fun _ _ _ _ _ => pe_g c_is_seat hr (by decide) hG (by rfl) (pa_cons (pv 3) (pa_cons (pe_lc (own := [("tie", 4), ("other", 5)]) rfl sc_are_seats.nd (PI.or (pi_enum (by rfl) B.n_enumerate (pa_cons (pv 1) pa_nil)) (Un.pi_enumT (by rfl) B.n_enumerate (pa_cons (pv 1) pa_nil))) (blkOk_in (N := N_are_seats) rfl (by decide +kernel)) (fun _ _ _ _ _ => (PG.or (pg_tup rfl (pgs_cons (pg_name (i := 4) sc_are_seats.nd rfl (.inl rfl)) (pgs_cons (pg_name (i := 5) sc_are_seats.nd rfl (.inl rfl)) pgs_nil))) (pg_unl rfl (pgs_cons (pg_name (i := 4) sc_are_seats.nd rfl (.inl rfl)) (pgs_cons (pg_name (i := 5) sc_are_seats.nd rfl (.inl rfl)) pgs_nil))))) (fun _ _ _ _ _ => pts_one (pt_cmpR (op_eqD hr.units) (pv 5) (pv 2) (nomark _))) (fun _ _ _ _ _ => (pv 4))) pa_nil)))) pa_nil)))
theorem eq_F_is_tie : F_is_tie = runP 3 3 X_is_tie := by unfold F_is_tie; rfl
theorem c_is_tie (F : Dfn K mg "is_tie" s_is_tie ["thing", "givers", "takers"]) (B : Bm mg) {t_FAR : Tok} (m_FAR : mg "FAR" = some (.int 1000000000000000 t_FAR)) (c_is_number_to : CalG P w K mg base 2 "is_number_to" (spF F_is_number_to)) (c_is_tuple_of : CalG P w K mg base 1 "is_tuple_of" (spF F_is_tuple_of)) : CalG P w K mg base 3 "is_tie" (spF F_is_tie) := by
  rw [eq_F_is_tie]
  refine cal_g F sc_is_tie (fun vs H Q E h => len_F h) (fun f cdv A outer s H E hG hr => ⟨T_is_tie, ?_, fun vs Q h => go_P (n := 3) (k := 3) ss_is_tie rfl h⟩)
  unfold T_is_tie
  exact pss_cons (ps_if (pt_not (pt_val (pe_g c_is_tuple_of hr (by decide) hG (by rfl) (pa_cons (pv 0) (pa_cons pe_int (pa_cons pe_int pa_nil)))))) (pss_one (ps_ret pe_bl)) pss_nil)
      (pss_cons (ps_asg (pv 0) (PG.or (pg_tup rfl (pgs_cons (pg_name (i := 3) sc_is_tie.nd rfl (.inl rfl)) (pgs_cons (pg_name (i := 4) sc_is_tie.nd rfl (.inl rfl)) (pgs_cons (pg_name (i := 5) sc_is_tie.nd rfl (.inl rfl)) pgs_nil)))) (pg_unl rfl (pgs_cons (pg_name (i := 3) sc_is_tie.nd rfl (.inl rfl)) (pgs_cons (pg_name (i := 4) sc_is_tie.nd rfl (.inl rfl)) (pgs_cons (pg_name (i := 5) sc_is_tie.nd rfl (.inl rfl)) pgs_nil))))))
      (pss_one (ps_ret (pe_and (pe_g c_is_number_to hr (by decide) hG (by rfl) (pa_cons (pv 3) (pa_cons (pe_op op_sub (pv 1) pe_int) pa_nil))) (pe_and (pe_g c_is_number_to hr (by decide) hG (by rfl) (pa_cons (pv 4) (pa_cons (pe_op op_sub (pv 2) pe_int) pa_nil))) (pe_one (pe_g c_is_number_to hr (by decide) hG (by rfl) (pa_cons (pv 5) (pa_cons (pe_glob (by rfl) m_FAR ⟨_, rfl⟩) pa_nil)))))))))
theorem eq_F_is_fair : F_is_fair = runP 1 4 X_is_fair := by unfold F_is_fair; rfl
theorem c_is_fair (F : Dfn K mg "is_fair" s_is_fair ["thing"]) (B : Bm mg) {t_SEATS : Tok} (m_SEATS : mg "SEATS" = some (.int 28 t_SEATS)) {t_TIES : Tok} (m_TIES : mg "TIES" = some (.int 36 t_TIES)) (c_are_seats : CalG P w K mg base 4 "are_seats" (spF F_are_seats)) (c_is_tie : CalG P w K mg base 3 "is_tie" (spF F_is_tie)) (c_is_tuple_of : CalG P w K mg base 1 "is_tuple_of" (spF F_is_tuple_of)) : CalG P w K mg base 5 "is_fair" (spF F_is_fair) := by
  rw [eq_F_is_fair]
  refine cal_g F sc_is_fair (fun vs H Q E h => len_F h) (fun f cdv A outer s H E hG hr => ⟨T_is_fair, ?_, fun vs Q h => go_P (n := 1) (k := 4) ss_is_fair rfl h⟩)
  unfold T_is_fair
  exact pss_cons (ps_if (pt_not (pt_val (pe_g c_is_tuple_of hr (by decide) hG (by rfl) (pa_cons (pv 0) (pa_cons pe_int (pa_cons pe_int pa_nil)))))) (pss_one (ps_ret pe_bl)) pss_nil)
      (pss_cons (ps_asg (pv 0) (PG.or (pg_tup rfl (pgs_cons (pg_name (i := 1) sc_is_fair.nd rfl (.inl rfl)) (pgs_cons (pg_name (i := 2) sc_is_fair.nd rfl (.inr rfl)) (pgs_cons (pg_name (i := 3) sc_is_fair.nd rfl (.inr rfl)) pgs_nil)))) (pg_unl rfl (pgs_cons (pg_name (i := 1) sc_is_fair.nd rfl (.inl rfl)) (pgs_cons (pg_name (i := 2) sc_is_fair.nd rfl (.inr rfl)) (pgs_cons (pg_name (i := 3) sc_is_fair.nd rfl (.inr rfl)) pgs_nil))))))
      (pss_cons (ps_if (PW.pt (pw_or (pt_not (pt_val (pe_g c_is_tuple_of hr (by decide) hG (by rfl) (pa_cons (pv 1) (pa_cons pe_int (pa_cons (pe_glob (by rfl) m_TIES ⟨_, rfl⟩) pa_nil)))))) (pw_or (pt_not (pt_val (pe_g c_is_tuple_of hr (by decide) hG (by rfl) (pa_cons (pv 2) (pa_cons pe_int (pa_cons (pe_glob (by rfl) m_SEATS ⟨_, rfl⟩) pa_nil)))))) (pw_or1 (pt_not (pt_val (pe_g c_is_tuple_of hr (by decide) hG (by rfl) (pa_cons (pv 3) (pa_cons pe_int (pa_cons (pe_glob (by rfl) m_SEATS ⟨_, rfl⟩) pa_nil)))))))))) (pss_one (ps_ret pe_bl)) pss_nil)
      (pss_cons (ps_if (pt_not (pt_val (pe_callB (cr_all rfl) (by rfl) B.n_all (by decide +kernel) (pa_cons (pe_lc (own := [("tie", 4)]) rfl sc_is_fair.nd (PI.or (pi_list (pv 1)) (pi_tup (pv 1))) (blkOk_by (N := N_is_fair) (sc := defScope s_is_fair) (by decide +kernel)) (fun _ _ _ _ _ => (pg_name (i := 4) sc_is_fair.nd rfl (.inl rfl))) (fun _ _ _ _ _ => pts_nil) (fun _ _ _ _ _ => pe_g c_is_tie hr (by decide) hG (by rfl) (pa_cons (pv 4) (pa_cons (pe_callB call_len_seq (by rfl) B.n_len (by decide +kernel) (pa_cons (pv 2) pa_nil)) (pa_cons (pe_callB call_len_seq (by rfl) B.n_len (by decide +kernel) (pa_cons (pv 3) pa_nil)) pa_nil))))) pa_nil)))) (pss_one (ps_ret pe_bl)) pss_nil)
      (pss_one (ps_ret (pe_and (pe_g c_are_seats hr (by decide) hG (by rfl) (pa_cons (pv 2) (pa_cons (pe_lc (own := [("tie", 4)]) rfl sc_is_fair.nd (PI.or (pi_list (pv 1)) (pi_tup (pv 1))) (blkOk_by (N := N_is_fair) (sc := defScope s_is_fair) (by decide +kernel)) (fun _ _ _ _ _ => (pg_name (i := 4) sc_is_fair.nd rfl (.inl rfl))) (fun _ _ _ _ _ => pts_nil) (fun _ _ _ _ _ => pe_ix ix_seq (pv 4) pe_int (fun _ _ => rfl))) pa_nil))) (pe_one (pe_g c_are_seats hr (by decide) hG (by rfl) (pa_cons (pv 3) (pa_cons (pe_lc (own := [("tie", 4)]) rfl sc_is_fair.nd (PI.or (pi_list (pv 1)) (pi_tup (pv 1))) (blkOk_by (N := N_is_fair) (sc := defScope s_is_fair) (by decide +kernel)) (fun _ _ _ _ _ => (pg_name (i := 4) sc_is_fair.nd rfl (.inl rfl))) (fun _ _ _ _ _ => pts_nil) (fun _ _ _ _ _ => pe_ix ix_seq (pv 4) pe_int (fun _ _ => rfl))) pa_nil))))))))))
theorem eq_F_law_z38 : F_law_z38 = runP 1 7 X_law_z38 := by unfold F_law_z38; rfl
theorem ok_law {f : Addr} {fd : FuncData} (F : Fun K "law" "law" s_law f fd) (B : Bm mg) (c__law_deck : CalG P w K mg base 1 "_law_deck" (spD F__law_deck_e)) (c__law_fair : CalG P w K mg base 1 "_law_fair" (spF F__law_fair_b)) (c__law_far : CalG P w K mg base 4 "_law_far" (spW F__law_far)) (c__law_fullest : CalG P w K mg base 4 "_law_fullest" (spW F__law_fullest)) (c__law_small : CalG P w K mg base 4 "_law_small" (spW F__law_small)) (c_fair_of : CalG P w K mg base 4 "fair_of" (spF F_fair_of)) (c_is_fair : CalG P w K mg base 5 "is_fair" (spF F_is_fair)) : FnG P w K mg base 6 f fd ["_law_script"] (spF F_law_z38) := by
  rw [eq_F_law_z38]
  refine fn_g F sc_law (fun vs H Q E h => len_F h) (fun cdv A outer s H E hG hr => ⟨T_law_z38, ?_, fun vs Q h => go_P (n := 1) (k := 7) ss_law_z38 rfl h⟩)
  unfold T_law_z38
  exact pss_cons (ps_set (i := 1) sc_law.nd rfl (.inl rfl) (pe_g c__law_deck hr (by decide) hG (by rfl) (pa_cons (pv 0) pa_nil)))
      (pss_cons (ps_set (i := 2) sc_law.nd rfl (.inl rfl) (pe_lst (pa_cons (pe_g c__law_small hr (by decide) hG (by rfl) (pa_cons (pv 1) pa_nil)) (pa_cons (pe_g c__law_far hr (by decide) hG (by rfl) (pa_cons (pv 1) pa_nil)) (pa_cons (pe_g c__law_far hr (by decide) hG (by rfl) (pa_cons (pv 1) pa_nil)) (pa_cons (pe_g c__law_fullest hr (by decide) hG (by rfl) (pa_cons (pv 1) pa_nil)) pa_nil))))))
      (pss_cons (ps_for PassesOwn.never rfl (PI.or (pi_list (pv 2)) (pi_tup (pv 2))) (pg_name (i := 3) sc_law.nd rfl (.inl rfl)) (pss_cons (ps_par (i := 4) (j := 5) rfl sc_law.nd rfl rfl (by decide) rfl rfl (pa_cons (pe_callB (cr_repr hG (u65 hr)) (by rfl) B.n_repr (by decide +kernel) (pa_cons (pv 3) pa_nil)) (pa_cons (pe_g c__law_fair hr (by decide) hG (by rfl) (pa_cons (pv 3) pa_nil)) pa_nil)) rfl)
      (pss_cons (ps_for PassesOwn.never rfl (pi_range1 (by rfl) B.n_range (pa_cons pe_int pa_nil)) (pg_name (i := 6) sc_law.nd rfl (.inl rfl)) (pss_cons (ps_set (i := 7) sc_law.nd rfl (.inl rfl) (pe_g c_fair_of hr (by decide) hG (by rfl) (pa_cons (pv 3) pa_nil)))
      (pss_one (ps_if (PW.pt (pw_or (pt_cmpR (op_neD hr.units) (pe_callB (cr_repr hG (u65 hr)) (by rfl) B.n_repr (by decide +kernel) (pa_cons (pv 7) pa_nil)) (pe_callB (cr_repr hG (u65 hr)) (by rfl) B.n_repr (by decide +kernel) (pa_cons (pv 5) pa_nil)) (nomark _)) (pw_or1 (pt_cmpR op_notU (pe_g c_is_fair hr (by decide) hG (by rfl) (pa_cons (pv 7) pa_nil)) pe_bl (nomark _))))) (pss_one (ps_ret pe_bl)) pss_nil))))
      (pss_one (ps_if (pt_cmpR (op_neD hr.units) (pe_callB (cr_repr hG (u65 hr)) (by rfl) B.n_repr (by decide +kernel) (pa_cons (pv 3) pa_nil)) (pv 4) (nomark _)) (pss_one (ps_ret pe_bl)) pss_nil)))))
      (pss_one (ps_ret pe_bl))))
end
theorem all_mk {l : PySem.W.OpenLaw} {w : World} {K : PySem.W.Frag} {h : Heap} {mg : Str → Option Value} {fa : Addr} (X : K.In h) (G : h.Ns mainGlobals mg) (hfa : mg "law" = some (.ref fa))
    {f0 : Addr} {od0 an0 : Option Addr} {sl0 : Array (Option Value)} {oc0 kV0 dc0 pm0 cd0 ct0 : Value}
    {f1 : Addr} {od1 an1 : Option Addr} {sl1 : Array (Option Value)} {oc1 kV1 dc1 pm1 cd1 ct1 : Value}
    {f2 : Addr} {od2 an2 : Option Addr} {sl2 : Array (Option Value)} {oc2 kV2 dc2 pm2 cd2 ct2 : Value}
    {f3 : Addr} {od3 an3 : Option Addr} {sl3 : Array (Option Value)} {oc3 kV3 dc3 pm3 cd3 ct3 : Value}
    {f4 : Addr} {od4 an4 : Option Addr} {sl4 : Array (Option Value)} {oc4 kV4 dc4 pm4 cd4 ct4 : Value}
    {f5 : Addr} {od5 an5 : Option Addr} {sl5 : Array (Option Value)} {oc5 kV5 dc5 pm5 cd5 ct5 : Value}
    {f6 : Addr} {od6 an6 : Option Addr} {sl6 : Array (Option Value)} {oc6 kV6 dc6 pm6 cd6 ct6 : Value}
    {f7 : Addr} {od7 an7 : Option Addr} {sl7 : Array (Option Value)} {oc7 kV7 dc7 pm7 cd7 ct7 : Value}
    {f8 : Addr} {od8 an8 : Option Addr} {sl8 : Array (Option Value)} {oc8 kV8 dc8 pm8 cd8 ct8 : Value}
    {f9 : Addr} {od9 an9 : Option Addr} {sl9 : Array (Option Value)} {oc9 kV9 dc9 pm9 cd9 ct9 : Value}
    {f10 : Addr} {od10 an10 : Option Addr} {sl10 : Array (Option Value)} {oc10 kV10 dc10 pm10 cd10 ct10 : Value}
    {f11 : Addr} {od11 an11 : Option Addr} {sl11 : Array (Option Value)} {oc11 kV11 dc11 pm11 cd11 ct11 : Value}
    {f12 : Addr} {od12 an12 : Option Addr} {sl12 : Array (Option Value)} {oc12 kV12 dc12 pm12 cd12 ct12 : Value}
    {f13 : Addr} {od13 an13 : Option Addr} {sl13 : Array (Option Value)} {oc13 kV13 dc13 pm13 cd13 ct13 : Value}
    {f14 : Addr} {od14 an14 : Option Addr} {sl14 : Array (Option Value)} {oc14 kV14 dc14 pm14 cd14 ct14 : Value}
    {f15 : Addr} {od15 an15 : Option Addr} {sl15 : Array (Option Value)} {oc15 kV15 dc15 pm15 cd15 ct15 : Value}
    {f16 : Addr} {od16 an16 : Option Addr} {sl16 : Array (Option Value)} {oc16 kV16 dc16 pm16 cd16 ct16 : Value}
    {f17 : Addr} {od17 an17 : Option Addr} {sl17 : Array (Option Value)} {oc17 kV17 dc17 pm17 cd17 ct17 : Value}
    {f18 : Addr} {od18 an18 : Option Addr} {sl18 : Array (Option Value)} {oc18 kV18 dc18 pm18 cd18 ct18 : Value}
    {f19 : Addr} {od19 an19 : Option Addr} {sl19 : Array (Option Value)} {oc19 kV19 dc19 pm19 cd19 ct19 : Value}
    {f20 : Addr} {od20 an20 : Option Addr} {sl20 : Array (Option Value)} {oc20 kV20 dc20 pm20 cd20 ct20 : Value}
    {f21 : Addr} {od21 an21 : Option Addr} {sl21 : Array (Option Value)} {oc21 kV21 dc21 pm21 cd21 ct21 : Value}
    {f22 : Addr} {od22 an22 : Option Addr} {sl22 : Array (Option Value)} {oc22 kV22 dc22 pm22 cd22 ct22 : Value}
    {f23 : Addr} {od23 an23 : Option Addr} {sl23 : Array (Option Value)} {oc23 kV23 dc23 pm23 cd23 ct23 : Value}
    {f24 : Addr} {od24 an24 : Option Addr} {sl24 : Array (Option Value)} {oc24 kV24 dc24 pm24 cd24 ct24 : Value}
    {f25 : Addr} {od25 an25 : Option Addr} {sl25 : Array (Option Value)} {oc25 kV25 dc25 pm25 cd25 ct25 : Value}
    {f26 : Addr} {od26 an26 : Option Addr} {sl26 : Array (Option Value)} {oc26 kV26 dc26 pm26 cd26 ct26 : Value}
    {f27 : Addr} {od27 an27 : Option Addr} {sl27 : Array (Option Value)} {oc27 kV27 dc27 pm27 cd27 ct27 : Value}
    {f28 : Addr} {od28 an28 : Option Addr} {sl28 : Array (Option Value)} {oc28 kV28 dc28 pm28 cd28 ct28 : Value}
    {f29 : Addr} {od29 an29 : Option Addr} {sl29 : Array (Option Value)} {oc29 kV29 dc29 pm29 cd29 ct29 : Value}
    {f30 : Addr} {od30 an30 : Option Addr} {sl30 : Array (Option Value)} {oc30 kV30 dc30 pm30 cd30 ct30 : Value}
    {t_FAR : Tok}
    {t_SEATS : Tok}
    {t_TIES : Tok}
    (a0 : PySem.W.nsIn K mainGlobals "_law_deck" = some (some (.ref f0))) (l0 : K.lookup f0 = some ⟨oc0, od0, .func (PySem.W.fnOf "_law_deck" "_law_deck" (defArgs s__law_deck) (defBody s__law_deck) (defScope s__law_deck) .none kV0 dc0 pm0 an0 cd0 ct0), sl0⟩) (c0 : PySem.W.codeIn K cd0 "_law_deck" = true) (k0 : PySem.W.keepIn K (.ref f0) = true)
    (a1 : PySem.W.nsIn K mainGlobals "_law_fair" = some (some (.ref f1))) (l1 : K.lookup f1 = some ⟨oc1, od1, .func (PySem.W.fnOf "_law_fair" "_law_fair" (defArgs s__law_fair) (defBody s__law_fair) (defScope s__law_fair) .none kV1 dc1 pm1 an1 cd1 ct1), sl1⟩) (c1 : PySem.W.codeIn K cd1 "_law_fair" = true) (k1 : PySem.W.keepIn K (.ref f1) = true)
    (a2 : PySem.W.nsIn K mainGlobals "_law_draw" = some (some (.ref f2))) (l2 : K.lookup f2 = some ⟨oc2, od2, .func (PySem.W.fnOf "_law_draw" "_law_draw" (defArgs s__law_draw) (defBody s__law_draw) (defScope s__law_draw) .none kV2 dc2 pm2 an2 cd2 ct2), sl2⟩) (c2 : PySem.W.codeIn K cd2 "_law_draw" = true) (k2 : PySem.W.keepIn K (.ref f2) = true)
    (a3 : PySem.W.nsIn K mainGlobals "_law_ends" = some (some (.ref f3))) (l3 : K.lookup f3 = some ⟨oc3, od3, .func (PySem.W.fnOf "_law_ends" "_law_ends" (defArgs s__law_ends) (defBody s__law_ends) (defScope s__law_ends) .none kV3 dc3 pm3 an3 cd3 ct3), sl3⟩) (c3 : PySem.W.codeIn K cd3 "_law_ends" = true) (k3 : PySem.W.keepIn K (.ref f3) = true)
    (a4 : PySem.W.nsIn K mainGlobals "_law_shuffled" = some (some (.ref f4))) (l4 : K.lookup f4 = some ⟨oc4, od4, .func (PySem.W.fnOf "_law_shuffled" "_law_shuffled" (defArgs s__law_shuffled) (defBody s__law_shuffled) (defScope s__law_shuffled) .none kV4 dc4 pm4 an4 cd4 ct4), sl4⟩) (c4 : PySem.W.codeIn K cd4 "_law_shuffled" = true) (k4 : PySem.W.keepIn K (.ref f4) = true)
    (a5 : PySem.W.nsIn K mainGlobals "_law_ordered" = some (some (.ref f5))) (l5 : K.lookup f5 = some ⟨oc5, od5, .func (PySem.W.fnOf "_law_ordered" "_law_ordered" (defArgs s__law_ordered) (defBody s__law_ordered) (defScope s__law_ordered) .none kV5 dc5 pm5 an5 cd5 ct5), sl5⟩) (c5 : PySem.W.codeIn K cd5 "_law_ordered" = true) (k5 : PySem.W.keepIn K (.ref f5) = true)
    (a6 : PySem.W.nsIn K mainGlobals "_law_room" = some (some (.ref f6))) (l6 : K.lookup f6 = some ⟨oc6, od6, .func (PySem.W.fnOf "_law_room" "_law_room" (defArgs s__law_room) (defBody s__law_room) (defScope s__law_room) .none kV6 dc6 pm6 an6 cd6 ct6), sl6⟩) (c6 : PySem.W.codeIn K cd6 "_law_room" = true) (k6 : PySem.W.keepIn K (.ref f6) = true)
    (a7 : PySem.W.nsIn K mainGlobals "_law_rounded" = some (some (.ref f7))) (l7 : K.lookup f7 = some ⟨oc7, od7, .func (PySem.W.fnOf "_law_rounded" "_law_rounded" (defArgs s__law_rounded) (defBody s__law_rounded) (defScope s__law_rounded) .none kV7 dc7 pm7 an7 cd7 ct7), sl7⟩) (c7 : PySem.W.codeIn K cd7 "_law_rounded" = true) (k7 : PySem.W.keepIn K (.ref f7) = true)
    (a8 : PySem.W.nsIn K mainGlobals "_law_far" = some (some (.ref f8))) (l8 : K.lookup f8 = some ⟨oc8, od8, .func (PySem.W.fnOf "_law_far" "_law_far" (defArgs s__law_far) (defBody s__law_far) (defScope s__law_far) .none kV8 dc8 pm8 an8 cd8 ct8), sl8⟩) (c8 : PySem.W.codeIn K cd8 "_law_far" = true) (k8 : PySem.W.keepIn K (.ref f8) = true)
    (a9 : PySem.W.nsIn K mainGlobals "_law_fullest" = some (some (.ref f9))) (l9 : K.lookup f9 = some ⟨oc9, od9, .func (PySem.W.fnOf "_law_fullest" "_law_fullest" (defArgs s__law_fullest) (defBody s__law_fullest) (defScope s__law_fullest) .none kV9 dc9 pm9 an9 cd9 ct9), sl9⟩) (c9 : PySem.W.codeIn K cd9 "_law_fullest" = true) (k9 : PySem.W.keepIn K (.ref f9) = true)
    (a10 : PySem.W.nsIn K mainGlobals "_law_small" = some (some (.ref f10))) (l10 : K.lookup f10 = some ⟨oc10, od10, .func (PySem.W.fnOf "_law_small" "_law_small" (defArgs s__law_small) (defBody s__law_small) (defScope s__law_small) .none kV10 dc10 pm10 an10 cd10 ct10), sl10⟩) (c10 : PySem.W.codeIn K cd10 "_law_small" = true) (k10 : PySem.W.keepIn K (.ref f10) = true)
    (a11 : PySem.W.nsIn K mainGlobals "big_of" = some (some (.ref f11))) (l11 : K.lookup f11 = some ⟨oc11, od11, .func (PySem.W.fnOf "big_of" "big_of" (defArgs s_big_of) (defBody s_big_of) (defScope s_big_of) .none kV11 dc11 pm11 an11 cd11 ct11), sl11⟩) (c11 : PySem.W.codeIn K cd11 "big_of" = true) (k11 : PySem.W.keepIn K (.ref f11) = true)
    (a12 : PySem.W.nsIn K mainGlobals "door_seats" = some (some (.ref f12))) (l12 : K.lookup f12 = some ⟨oc12, od12, .func (PySem.W.fnOf "door_seats" "door_seats" (defArgs s_door_seats) (defBody s_door_seats) (defScope s_door_seats) .none kV12 dc12 pm12 an12 cd12 ct12), sl12⟩) (c12 : PySem.W.codeIn K cd12 "door_seats" = true) (k12 : PySem.W.keepIn K (.ref f12) = true)
    (a13 : PySem.W.nsIn K mainGlobals "in_doors" = some (some (.ref f13))) (l13 : K.lookup f13 = some ⟨oc13, od13, .func (PySem.W.fnOf "in_doors" "in_doors" (defArgs s_in_doors) (defBody s_in_doors) (defScope s_in_doors) .none kV13 dc13 pm13 an13 cd13 ct13), sl13⟩) (c13 : PySem.W.codeIn K cd13 "in_doors" = true) (k13 : PySem.W.keepIn K (.ref f13) = true)
    (a14 : PySem.W.nsIn K mainGlobals "lying" = some (some (.ref f14))) (l14 : K.lookup f14 = some ⟨oc14, od14, .func (PySem.W.fnOf "lying" "lying" (defArgs s_lying) (defBody s_lying) (defScope s_lying) .none kV14 dc14 pm14 an14 cd14 ct14), sl14⟩) (c14 : PySem.W.codeIn K cd14 "lying" = true) (k14 : PySem.W.keepIn K (.ref f14) = true)
    (a15 : PySem.W.nsIn K mainGlobals "standing" = some (some (.ref f15))) (l15 : K.lookup f15 = some ⟨oc15, od15, .func (PySem.W.fnOf "standing" "standing" (defArgs s_standing) (defBody s_standing) (defScope s_standing) .none kV15 dc15 pm15 an15 cd15 ct15), sl15⟩) (c15 : PySem.W.codeIn K cd15 "standing" = true) (k15 : PySem.W.keepIn K (.ref f15) = true)
    (a16 : PySem.W.nsIn K mainGlobals "givers_of" = some (some (.ref f16))) (l16 : K.lookup f16 = some ⟨oc16, od16, .func (PySem.W.fnOf "givers_of" "givers_of" (defArgs s_givers_of) (defBody s_givers_of) (defScope s_givers_of) .none kV16 dc16 pm16 an16 cd16 ct16), sl16⟩) (c16 : PySem.W.codeIn K cd16 "givers_of" = true) (k16 : PySem.W.keepIn K (.ref f16) = true)
    (a17 : PySem.W.nsIn K mainGlobals "house_ties" = some (some (.ref f17))) (l17 : K.lookup f17 = some ⟨oc17, od17, .func (PySem.W.fnOf "house_ties" "house_ties" (defArgs s_house_ties) (defBody s_house_ties) (defScope s_house_ties) .none kV17 dc17 pm17 an17 cd17 ct17), sl17⟩) (c17 : PySem.W.codeIn K cd17 "house_ties" = true) (k17 : PySem.W.keepIn K (.ref f17) = true)
    (a18 : PySem.W.nsIn K mainGlobals "out_doors" = some (some (.ref f18))) (l18 : K.lookup f18 = some ⟨oc18, od18, .func (PySem.W.fnOf "out_doors" "out_doors" (defArgs s_out_doors) (defBody s_out_doors) (defScope s_out_doors) .none kV18 dc18 pm18 an18 cd18 ct18), sl18⟩) (c18 : PySem.W.codeIn K cd18 "out_doors" = true) (k18 : PySem.W.keepIn K (.ref f18) = true)
    (a19 : PySem.W.nsIn K mainGlobals "road_ties" = some (some (.ref f19))) (l19 : K.lookup f19 = some ⟨oc19, od19, .func (PySem.W.fnOf "road_ties" "road_ties" (defArgs s_road_ties) (defBody s_road_ties) (defScope s_road_ties) .none kV19 dc19 pm19 an19 cd19 ct19), sl19⟩) (c19 : PySem.W.codeIn K cd19 "road_ties" = true) (k19 : PySem.W.keepIn K (.ref f19) = true)
    (a20 : PySem.W.nsIn K mainGlobals "takers_of" = some (some (.ref f20))) (l20 : K.lookup f20 = some ⟨oc20, od20, .func (PySem.W.fnOf "takers_of" "takers_of" (defArgs s_takers_of) (defBody s_takers_of) (defScope s_takers_of) .none kV20 dc20 pm20 an20 cd20 ct20), sl20⟩) (c20 : PySem.W.codeIn K cd20 "takers_of" = true) (k20 : PySem.W.keepIn K (.ref f20) = true)
    (a21 : PySem.W.nsIn K mainGlobals "fair_of" = some (some (.ref f21))) (l21 : K.lookup f21 = some ⟨oc21, od21, .func (PySem.W.fnOf "fair_of" "fair_of" (defArgs s_fair_of) (defBody s_fair_of) (defScope s_fair_of) .none kV21 dc21 pm21 an21 cd21 ct21), sl21⟩) (c21 : PySem.W.codeIn K cd21 "fair_of" = true) (k21 : PySem.W.keepIn K (.ref f21) = true)
    (a22 : PySem.W.nsIn K mainGlobals "is_number" = some (some (.ref f22))) (l22 : K.lookup f22 = some ⟨oc22, od22, .func (PySem.W.fnOf "is_number" "is_number" (defArgs s_is_number) (defBody s_is_number) (defScope s_is_number) .none kV22 dc22 pm22 an22 cd22 ct22), sl22⟩) (c22 : PySem.W.codeIn K cd22 "is_number" = true) (k22 : PySem.W.keepIn K (.ref f22) = true)
    (a23 : PySem.W.nsIn K mainGlobals "is_number_to" = some (some (.ref f23))) (l23 : K.lookup f23 = some ⟨oc23, od23, .func (PySem.W.fnOf "is_number_to" "is_number_to" (defArgs s_is_number_to) (defBody s_is_number_to) (defScope s_is_number_to) .none kV23 dc23 pm23 an23 cd23 ct23), sl23⟩) (c23 : PySem.W.codeIn K cd23 "is_number_to" = true) (k23 : PySem.W.keepIn K (.ref f23) = true)
    (a24 : PySem.W.nsIn K mainGlobals "is_order" = some (some (.ref f24))) (l24 : K.lookup f24 = some ⟨oc24, od24, .func (PySem.W.fnOf "is_order" "is_order" (defArgs s_is_order) (defBody s_is_order) (defScope s_is_order) .none kV24 dc24 pm24 an24 cd24 ct24), sl24⟩) (c24 : PySem.W.codeIn K cd24 "is_order" = true) (k24 : PySem.W.keepIn K (.ref f24) = true)
    (a25 : PySem.W.nsIn K mainGlobals "is_tuple_of" = some (some (.ref f25))) (l25 : K.lookup f25 = some ⟨oc25, od25, .func (PySem.W.fnOf "is_tuple_of" "is_tuple_of" (defArgs s_is_tuple_of) (defBody s_is_tuple_of) (defScope s_is_tuple_of) .none kV25 dc25 pm25 an25 cd25 ct25), sl25⟩) (c25 : PySem.W.codeIn K cd25 "is_tuple_of" = true) (k25 : PySem.W.keepIn K (.ref f25) = true)
    (a26 : PySem.W.nsIn K mainGlobals "is_seat" = some (some (.ref f26))) (l26 : K.lookup f26 = some ⟨oc26, od26, .func (PySem.W.fnOf "is_seat" "is_seat" (defArgs s_is_seat) (defBody s_is_seat) (defScope s_is_seat) .none kV26 dc26 pm26 an26 cd26 ct26), sl26⟩) (c26 : PySem.W.codeIn K cd26 "is_seat" = true) (k26 : PySem.W.keepIn K (.ref f26) = true)
    (a27 : PySem.W.nsIn K mainGlobals "are_seats" = some (some (.ref f27))) (l27 : K.lookup f27 = some ⟨oc27, od27, .func (PySem.W.fnOf "are_seats" "are_seats" (defArgs s_are_seats) (defBody s_are_seats) (defScope s_are_seats) .none kV27 dc27 pm27 an27 cd27 ct27), sl27⟩) (c27 : PySem.W.codeIn K cd27 "are_seats" = true) (k27 : PySem.W.keepIn K (.ref f27) = true)
    (a28 : PySem.W.nsIn K mainGlobals "is_tie" = some (some (.ref f28))) (l28 : K.lookup f28 = some ⟨oc28, od28, .func (PySem.W.fnOf "is_tie" "is_tie" (defArgs s_is_tie) (defBody s_is_tie) (defScope s_is_tie) .none kV28 dc28 pm28 an28 cd28 ct28), sl28⟩) (c28 : PySem.W.codeIn K cd28 "is_tie" = true) (k28 : PySem.W.keepIn K (.ref f28) = true)
    (a29 : PySem.W.nsIn K mainGlobals "is_fair" = some (some (.ref f29))) (l29 : K.lookup f29 = some ⟨oc29, od29, .func (PySem.W.fnOf "is_fair" "is_fair" (defArgs s_is_fair) (defBody s_is_fair) (defScope s_is_fair) .none kV29 dc29 pm29 an29 cd29 ct29), sl29⟩) (c29 : PySem.W.codeIn K cd29 "is_fair" = true) (k29 : PySem.W.keepIn K (.ref f29) = true)
    (a30 : PySem.W.nsIn K mainGlobals "law" = some (some (.ref f30))) (l30 : K.lookup f30 = some ⟨oc30, od30, .func (PySem.W.fnOf "law" "law" (defArgs s_law) (defBody s_law) (defScope s_law) .none kV30 dc30 pm30 an30 cd30 ct30), sl30⟩) (c30 : PySem.W.codeIn K cd30 "law" = true) (k30 : PySem.W.keepIn K (.ref f30) = true)
    (v_FAR : PySem.W.nsIn K mainGlobals "FAR" = some (some (.int 1000000000000000 t_FAR)))
    (v_SEATS : PySem.W.nsIn K mainGlobals "SEATS" = some (some (.int 28 t_SEATS)))
    (v_TIES : PySem.W.nsIn K mainGlobals "TIES" = some (some (.int 36 t_TIES)))
    (z_abs : PySem.W.nsIn K mainGlobals "abs" = some none)
    (z_all : PySem.W.nsIn K mainGlobals "all" = some none)
    (z_bool : PySem.W.nsIn K mainGlobals "bool" = some none)
    (z_enumerate : PySem.W.nsIn K mainGlobals "enumerate" = some none)
    (z_int : PySem.W.nsIn K mainGlobals "int" = some none)
    (z_isinstance : PySem.W.nsIn K mainGlobals "isinstance" = some none)
    (z_len : PySem.W.nsIn K mainGlobals "len" = some none)
    (z_list : PySem.W.nsIn K mainGlobals "list" = some none)
    (z_range : PySem.W.nsIn K mainGlobals "range" = some none)
    (z_repr : PySem.W.nsIn K mainGlobals "repr" = some none)
    (z_sorted : PySem.W.nsIn K mainGlobals "sorted" = some none)
    (z_sum : PySem.W.nsIn K mainGlobals "sum" = some none)
    (z_tuple : PySem.W.nsIn K mainGlobals "tuple" = some none) :
    ∃ fd : FuncData, (∀ (s : Shared) (v : Value), BindsTo s fd ⟨[v], []⟩ [("_law_script", v)]) ∧ ∀ base : Heap, K.In base → base.Ns mainGlobals mg → FnG l.prog w K mg base 6 fa fd ["_law_script"] (@spF ⟨K⟩ F_law_z38) := by
  letI : KK := ⟨K⟩
  have e := hfa.symm.trans (PySem.W.mg_of X G a30)
  cases e
  have B : Bm mg := ⟨PySem.W.mg_none_of X G z_abs, PySem.W.mg_none_of X G z_all, PySem.W.mg_none_of X G z_bool, PySem.W.mg_none_of X G z_enumerate, PySem.W.mg_none_of X G z_int, PySem.W.mg_none_of X G z_isinstance, PySem.W.mg_none_of X G z_len, PySem.W.mg_none_of X G z_list, PySem.W.mg_none_of X G z_range, PySem.W.mg_none_of X G z_repr, PySem.W.mg_none_of X G z_sorted, PySem.W.mg_none_of X G z_sum, PySem.W.mg_none_of X G z_tuple⟩
  have D0 : Dfn K mg "_law_deck" s__law_deck ["_law_script"] := dfn_mk X G a0 l0 c0 k0 fun _ _ _ _ _ _ us hl => match us, hl with | [_], _ => rfl
  have D1 : Dfn K mg "_law_fair" s__law_fair ["_law_web"] := dfn_mk X G a1 l1 c1 k1 fun _ _ _ _ _ _ us hl => match us, hl with | [_], _ => rfl
  have D2 : Dfn K mg "_law_draw" s__law_draw ["_law_deck_here", "_law_many"] := dfn_mk X G a2 l2 c2 k2 fun _ _ _ _ _ _ us hl => match us, hl with | [_, _], _ => rfl
  have D3 : Dfn K mg "_law_ends" s__law_ends ["_law_deck_here", "_law_many"] := dfn_mk X G a3 l3 c3 k3 fun _ _ _ _ _ _ us hl => match us, hl with | [_, _], _ => rfl
  have D4 : Dfn K mg "_law_shuffled" s__law_shuffled ["_law_deck_here", "_law_some"] := dfn_mk X G a4 l4 c4 k4 fun _ _ _ _ _ _ us hl => match us, hl with | [_, _], _ => rfl
  have D5 : Dfn K mg "_law_ordered" s__law_ordered ["_law_deck_here", "_law_many", "_law_roads"] := dfn_mk X G a5 l5 c5 k5 fun _ _ _ _ _ _ us hl => match us, hl with | [_, _, _], _ => rfl
  have D6 : Dfn K mg "_law_room" s__law_room ["_law_deck_here"] := dfn_mk X G a6 l6 c6 k6 fun _ _ _ _ _ _ us hl => match us, hl with | [_], _ => rfl
  have D7 : Dfn K mg "_law_rounded" s__law_rounded ["_law_deck_here"] := dfn_mk X G a7 l7 c7 k7 fun _ _ _ _ _ _ us hl => match us, hl with | [_], _ => rfl
  have D8 : Dfn K mg "_law_far" s__law_far ["_law_deck_here"] := dfn_mk X G a8 l8 c8 k8 fun _ _ _ _ _ _ us hl => match us, hl with | [_], _ => rfl
  have D9 : Dfn K mg "_law_fullest" s__law_fullest ["_law_deck_here"] := dfn_mk X G a9 l9 c9 k9 fun _ _ _ _ _ _ us hl => match us, hl with | [_], _ => rfl
  have D10 : Dfn K mg "_law_small" s__law_small ["_law_deck_here"] := dfn_mk X G a10 l10 c10 k10 fun _ _ _ _ _ _ us hl => match us, hl with | [_], _ => rfl
  have D11 : Dfn K mg "big_of" s_big_of ["web"] := dfn_mk X G a11 l11 c11 k11 fun _ _ _ _ _ _ us hl => match us, hl with | [_], _ => rfl
  have D12 : Dfn K mg "door_seats" s_door_seats ["web", "roads"] := dfn_mk X G a12 l12 c12 k12 fun _ _ _ _ _ _ us hl => match us, hl with | [_, _], _ => rfl
  have D13 : Dfn K mg "in_doors" s_in_doors ["web"] := dfn_mk X G a13 l13 c13 k13 fun _ _ _ _ _ _ us hl => match us, hl with | [_], _ => rfl
  have D14 : Dfn K mg "lying" s_lying ["web", "house"] := dfn_mk X G a14 l14 c14 k14 fun _ _ _ _ _ _ us hl => match us, hl with | [_, _], _ => rfl
  have D15 : Dfn K mg "standing" s_standing ["web", "house"] := dfn_mk X G a15 l15 c15 k15 fun _ _ _ _ _ _ us hl => match us, hl with | [_, _], _ => rfl
  have D16 : Dfn K mg "givers_of" s_givers_of ["web"] := dfn_mk X G a16 l16 c16 k16 fun _ _ _ _ _ _ us hl => match us, hl with | [_], _ => rfl
  have D17 : Dfn K mg "house_ties" s_house_ties ["web"] := dfn_mk X G a17 l17 c17 k17 fun _ _ _ _ _ _ us hl => match us, hl with | [_], _ => rfl
  have D18 : Dfn K mg "out_doors" s_out_doors ["web"] := dfn_mk X G a18 l18 c18 k18 fun _ _ _ _ _ _ us hl => match us, hl with | [_], _ => rfl
  have D19 : Dfn K mg "road_ties" s_road_ties ["web"] := dfn_mk X G a19 l19 c19 k19 fun _ _ _ _ _ _ us hl => match us, hl with | [_], _ => rfl
  have D20 : Dfn K mg "takers_of" s_takers_of ["web"] := dfn_mk X G a20 l20 c20 k20 fun _ _ _ _ _ _ us hl => match us, hl with | [_], _ => rfl
  have D21 : Dfn K mg "fair_of" s_fair_of ["web"] := dfn_mk X G a21 l21 c21 k21 fun _ _ _ _ _ _ us hl => match us, hl with | [_], _ => rfl
  have D22 : Dfn K mg "is_number" s_is_number ["thing"] := dfn_mk X G a22 l22 c22 k22 fun _ _ _ _ _ _ us hl => match us, hl with | [_], _ => rfl
  have D23 : Dfn K mg "is_number_to" s_is_number_to ["thing", "most"] := dfn_mk X G a23 l23 c23 k23 fun _ _ _ _ _ _ us hl => match us, hl with | [_, _], _ => rfl
  have D24 : Dfn K mg "is_order" s_is_order ["thing", "numbers"] := dfn_mk X G a24 l24 c24 k24 fun _ _ _ _ _ _ us hl => match us, hl with | [_, _], _ => rfl
  have D25 : Dfn K mg "is_tuple_of" s_is_tuple_of ["thing", "least", "most"] := dfn_mk X G a25 l25 c25 k25 fun _ _ _ _ _ _ us hl => match us, hl with | [_, _, _], _ => rfl
  have D26 : Dfn K mg "is_seat" s_is_seat ["thing", "ties"] := dfn_mk X G a26 l26 c26 k26 fun _ _ _ _ _ _ us hl => match us, hl with | [_, _], _ => rfl
  have D27 : Dfn K mg "are_seats" s_are_seats ["seats", "sitting"] := dfn_mk X G a27 l27 c27 k27 fun _ _ _ _ _ _ us hl => match us, hl with | [_, _], _ => rfl
  have D28 : Dfn K mg "is_tie" s_is_tie ["thing", "givers", "takers"] := dfn_mk X G a28 l28 c28 k28 fun _ _ _ _ _ _ us hl => match us, hl with | [_, _, _], _ => rfl
  have D29 : Dfn K mg "is_fair" s_is_fair ["thing"] := dfn_mk X G a29 l29 c29 k29 fun _ _ _ _ _ _ us hl => match us, hl with | [_], _ => rfl
  refine ⟨PySem.W.fnOf "law" "law" (defArgs s_law) (defBody s_law) (defScope s_law) .none kV30 dc30 pm30 an30 cd30 ct30, fun s v => .of_eq rfl, fun base _ _ => ?_⟩
  have C__law_deck := c__law_deck (P := l.prog) (w := w) (base := base) D0 B 
  have C__law_fair := c__law_fair (P := l.prog) (w := w) (base := base) D1 B 
  have C__law_draw := c__law_draw (P := l.prog) (w := w) (base := base) D2 B 
  have C__law_ends := c__law_ends (P := l.prog) (w := w) (base := base) D3 B C__law_draw
  have C__law_shuffled := c__law_shuffled (P := l.prog) (w := w) (base := base) D4 B C__law_draw
  have C__law_ordered := c__law_ordered (P := l.prog) (w := w) (base := base) D5 B C__law_shuffled
  have C__law_room := c__law_room (P := l.prog) (w := w) (base := base) D6 B C__law_draw
  have C__law_rounded := c__law_rounded (P := l.prog) (w := w) (base := base) D7 B C__law_room C__law_shuffled
  have C__law_far := c__law_far (P := l.prog) (w := w) (base := base) D8 B C__law_draw C__law_ends C__law_ordered C__law_room C__law_rounded
  have C__law_fullest := c__law_fullest (P := l.prog) (w := w) (base := base) D9 B C__law_ends C__law_ordered
  have C__law_small := c__law_small (P := l.prog) (w := w) (base := base) D10 B C__law_draw C__law_ends C__law_ordered
  have C_big_of := c_big_of (P := l.prog) (w := w) (base := base) D11 B 
  have C_door_seats := c_door_seats (P := l.prog) (w := w) (base := base) D12 B 
  have C_in_doors := c_in_doors (P := l.prog) (w := w) (base := base) D13 B 
  have C_lying := c_lying (P := l.prog) (w := w) (base := base) D14 B 
  have C_standing := c_standing (P := l.prog) (w := w) (base := base) D15 B C_lying
  have C_givers_of := c_givers_of (P := l.prog) (w := w) (base := base) D16 B C_big_of C_door_seats C_in_doors C_lying C_standing
  have C_house_ties := c_house_ties (P := l.prog) (w := w) (base := base) D17 B C_big_of
  have C_out_doors := c_out_doors (P := l.prog) (w := w) (base := base) D18 B 
  have C_road_ties := c_road_ties (P := l.prog) (w := w) (base := base) D19 B C_in_doors C_out_doors
  have C_takers_of := c_takers_of (P := l.prog) (w := w) (base := base) D20 B C_big_of C_door_seats C_lying C_out_doors C_standing
  have C_fair_of := c_fair_of (P := l.prog) (w := w) (base := base) D21 B C_givers_of C_house_ties C_road_ties C_takers_of
  have C_is_number := c_is_number (P := l.prog) (w := w) (base := base) D22 B 
  have C_is_number_to := c_is_number_to (P := l.prog) (w := w) (base := base) D23 B C_is_number
  have C_is_order := c_is_order (P := l.prog) (w := w) (base := base) D24 B C_is_number
  have C_is_tuple_of := c_is_tuple_of (P := l.prog) (w := w) (base := base) D25 B 
  have C_is_seat := c_is_seat (P := l.prog) (w := w) (base := base) D26 B (PySem.W.mg_of X G v_FAR) C_is_number_to C_is_order C_is_tuple_of
  have C_are_seats := c_are_seats (P := l.prog) (w := w) (base := base) D27 B C_is_seat
  have C_is_tie := c_is_tie (P := l.prog) (w := w) (base := base) D28 B (PySem.W.mg_of X G v_FAR) C_is_number_to C_is_tuple_of
  have C_is_fair := c_is_fair (P := l.prog) (w := w) (base := base) D29 B (PySem.W.mg_of X G v_SEATS) (PySem.W.mg_of X G v_TIES) C_are_seats C_is_tie C_is_tuple_of
  exact ok_law (fun_mk (st := s_law) l30 c30 k30) B C__law_deck C__law_fair C__law_far C__law_fullest C__law_small C_fair_of C_is_fair
end Row
open PySem PySem.W PyProof.Rows
set_option maxHeartbeats 0 in
theorem PySem.Challenge.cw_unturned_k39_fairs_of_webs_holds : PySem.Challenge.rw_unturned_k39_fairs_of_webs.Holds := by
  w_on; o_law; k_head; (case hw => w_witness2)
  k_fill
  refine Uv.walk_v (l := PySem.Challenge.rw_unturned_k39_fairs_of_webs) (n := 63) (k := 6) (x := "_law_script") (f := Fn.F_law_z38) rfl (by decide) rfl ⟨rfl, by decide, by decide⟩ (fun w h Y => PySem.W.kIn_of Y) ?F Fn.k39
  case F =>
    intro w mg fa h KX G hmg
    refine' Row.all_mk KX G hmg ?a0 ?l0 ?c0 ?k0 ?a1 ?l1 ?c1 ?k1 ?a2 ?l2 ?c2 ?k2 ?a3 ?l3 ?c3 ?k3 ?a4 ?l4 ?c4 ?k4 ?a5 ?l5 ?c5 ?k5 ?a6 ?l6 ?c6 ?k6 ?a7 ?l7 ?c7 ?k7 ?a8 ?l8 ?c8 ?k8 ?a9 ?l9 ?c9 ?k9 ?a10 ?l10 ?c10 ?k10 ?a11 ?l11 ?c11 ?k11 ?a12 ?l12 ?c12 ?k12 ?a13 ?l13 ?c13 ?k13 ?a14 ?l14 ?c14 ?k14 ?a15 ?l15 ?c15 ?k15 ?a16 ?l16 ?c16 ?k16 ?a17 ?l17 ?c17 ?k17 ?a18 ?l18 ?c18 ?k18 ?a19 ?l19 ?c19 ?k19 ?a20 ?l20 ?c20 ?k20 ?a21 ?l21 ?c21 ?k21 ?a22 ?l22 ?c22 ?k22 ?a23 ?l23 ?c23 ?k23 ?a24 ?l24 ?c24 ?k24 ?a25 ?l25 ?c25 ?k25 ?a26 ?l26 ?c26 ?k26 ?a27 ?l27 ?c27 ?k27 ?a28 ?l28 ?c28 ?k28 ?a29 ?l29 ?c29 ?k29 ?a30 ?l30 ?c30 ?k30 ?v_FAR ?v_SEATS ?v_TIES ?z_abs ?z_all ?z_bool ?z_enumerate ?z_int ?z_isinstance ?z_len ?z_list ?z_range ?z_repr ?z_sorted ?z_sum ?z_tuple
    (case a0 => k_is); (case l0 => k_is); (case c0 => k_is); (case k0 => k_is); (case a1 => k_is); (case l1 => k_is); (case c1 => k_is); (case k1 => k_is); (case a2 => k_is); (case l2 => k_is); (case c2 => k_is); (case k2 => k_is); (case a3 => k_is); (case l3 => k_is); (case c3 => k_is); (case k3 => k_is); (case a4 => k_is); (case l4 => k_is); (case c4 => k_is); (case k4 => k_is); (case a5 => k_is); (case l5 => k_is); (case c5 => k_is); (case k5 => k_is); (case a6 => k_is); (case l6 => k_is); (case c6 => k_is); (case k6 => k_is); (case a7 => k_is); (case l7 => k_is); (case c7 => k_is); (case k7 => k_is); (case a8 => k_is); (case l8 => k_is); (case c8 => k_is); (case k8 => k_is); (case a9 => k_is); (case l9 => k_is); (case c9 => k_is); (case k9 => k_is); (case a10 => k_is); (case l10 => k_is); (case c10 => k_is); (case k10 => k_is); (case a11 => k_is); (case l11 => k_is); (case c11 => k_is); (case k11 => k_is); (case a12 => k_is); (case l12 => k_is); (case c12 => k_is); (case k12 => k_is); (case a13 => k_is); (case l13 => k_is); (case c13 => k_is); (case k13 => k_is); (case a14 => k_is); (case l14 => k_is); (case c14 => k_is); (case k14 => k_is); (case a15 => k_is); (case l15 => k_is); (case c15 => k_is); (case k15 => k_is); (case a16 => k_is); (case l16 => k_is); (case c16 => k_is); (case k16 => k_is); (case a17 => k_is); (case l17 => k_is); (case c17 => k_is); (case k17 => k_is); (case a18 => k_is); (case l18 => k_is); (case c18 => k_is); (case k18 => k_is); (case a19 => k_is); (case l19 => k_is); (case c19 => k_is); (case k19 => k_is); (case a20 => k_is); (case l20 => k_is); (case c20 => k_is); (case k20 => k_is); (case a21 => k_is); (case l21 => k_is); (case c21 => k_is); (case k21 => k_is); (case a22 => k_is); (case l22 => k_is); (case c22 => k_is); (case k22 => k_is); (case a23 => k_is); (case l23 => k_is); (case c23 => k_is); (case k23 => k_is); (case a24 => k_is); (case l24 => k_is); (case c24 => k_is); (case k24 => k_is); (case a25 => k_is); (case l25 => k_is); (case c25 => k_is); (case k25 => k_is); (case a26 => k_is); (case l26 => k_is); (case c26 => k_is); (case k26 => k_is); (case a27 => k_is); (case l27 => k_is); (case c27 => k_is); (case k27 => k_is); (case a28 => k_is); (case l28 => k_is); (case c28 => k_is); (case k28 => k_is); (case a29 => k_is); (case l29 => k_is); (case c29 => k_is); (case k29 => k_is); (case a30 => k_is); (case l30 => k_is); (case c30 => k_is); (case k30 => k_is); (case v_FAR => k_is); (case v_SEATS => k_is); (case v_TIES => k_is); (case z_abs => k_is); (case z_all => k_is); (case z_bool => k_is); (case z_enumerate => k_is); (case z_int => k_is); (case z_isinstance => k_is); (case z_len => k_is); (case z_list => k_is); (case z_range => k_is); (case z_repr => k_is); (case z_sorted => k_is); (case z_sum => k_is); (case z_tuple => k_is)
