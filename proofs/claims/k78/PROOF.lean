import PyProof.Rows.All
import Wide.All
import OpenK.AllK
import Wide.FinOn
import HandS.Iter
import KE.GoesEnum
import PyProof.ReprRoads
import HandS.Dict
import PyProof.EqKinds
import PyProof.FactsAll.dict_1
import HandS.ForMost
import HandS.Evl
import HandS.Walk
import HandS.IsInst
import HandS.Wide
import HandS.NoneIn
import HandS.EndBits
import HandS.Codes
import HandS.TupAny
import HandS.TupMul
import HandS.Deep
import PyProof.TupleOfSeq
import PyProof.SeqIndex
import KE.DatumIndex
import HandS.Exc
import PyProof.CallFns
import HandS.SortInts
import HandS.Zip
import HandS.Star
import HandS.Conv
import KE.KRevSl
import HandS.Flt
import KE.DataCmp
import HandS.Zip0
import HandS.Strs
import HandS.SetFor
import HandS.DictComp
import HandS.Call
import HandS.RaiseMore
import KE.KDictPairs
import PyProof.Rows.IntBool
import KE.DatumOrd
import HandS.TryOnly
import HandS.ExcOwn
import HandS.Small
import HandS.ExcIs
import HandS.HotCalls
import HandS.Defaults
import KE.KMinKey
import PyProof.Rows.SetFrom
import HandS.TupSets
import HandS.SetBool
import KE.SortData
import HandS.Text
import HandS.StrMore
import HandS.FStr
import HandS.Flow
import HandS.ExcInit
import HandS.ExcField
import KE.KExcIs
import HandS.ReplaceLit
import HandS.Steps
import HandS.Style
import PyProof.SliceStr2
import KE.KDictLaw
import HandS.SetKeys
import HandS.More
import KE.KExcInit
import PyProof.ExcBaseAll.LookupError
import PyProof.CollectIter
import PyProof.WalksMore
import KE.KCallOwn
import KE.KTryMore
import HandS.ExcValue
import HandS.Finally
import HandS.Comp
import KE.GoesRaise
import PyProof.StrLawsRepr
import PySem.Challenge.RW_unturned_k78_texts_of_no_webs
set_option Elab.async false
set_option linter.all false
set_option maxRecDepth 100000
set_option maxHeartbeats 8000000
namespace Uv
open PySem PySem.Spec PyProof.Rows L2
def oexO (C : Addr) : Obj → Bool
  | ⟨.type "type", _, .cls cd, sl⟩ => (match cd.mro, sl.toList with
    | .ref C' :: bm, [_, _, _, _, some (.builtin n), _] => C' == C && n == "ValueError.__new__" && !cd.hasDel && cd.hasDict && PySem.HandSPX.refsVE bm
    | _, _ => false)
  | _ => false
end Uv
namespace Hed
open PySem PySem.Spec PyProof.Rows L2 Uv
def topS (i : Nat) : Stmt := PySem.Challenge.pw_unturned_k78_texts_of_no_webs.main.body.getD i (.Pass ⟨0, 0, 0, 0⟩)
def clsBody0 : Stmt → List Stmt
  | .ClassDef (body := b) .. => b
  | _ => []
abbrev s__law_deck : Stmt := topS 34
abbrev s__law_next : Stmt := topS 35
abbrev s__law_sign : Stmt := topS 45
abbrev s__law_spoilt : Stmt := topS 46
abbrev s__law_number_in : Stmt := topS 41
abbrev s__law_end_in : Stmt := topS 42
abbrev s__law_line_right : Stmt := topS 43
abbrev s__law_text_fault : Stmt := topS 44
abbrev s_check_text : Stmt := topS 26
abbrev s_houses_line : Stmt := topS 21
abbrev s_read_houses : Stmt := topS 27
abbrev s_is_number : Stmt := topS 11
abbrev s_is_order : Stmt := topS 14
abbrev s_order_line : Stmt := topS 24
abbrev s_number_in : Stmt := topS 31
abbrev s_roads_in : Stmt := topS 32
abbrev s_read_order : Stmt := topS 30
abbrev s_read_orders : Stmt := topS 29
abbrev s_is_number_to : Stmt := topS 12
abbrev s_is_end : Stmt := topS 17
abbrev s_is_tuple_of : Stmt := topS 13
abbrev s_road_fault : Stmt := topS 16
abbrev s_end_word : Stmt := topS 23
abbrev s_road_line : Stmt := topS 22
abbrev s_read_roads : Stmt := topS 28
abbrev s_web_text : Stmt := topS 20
abbrev s_read_web : Stmt := topS 25
abbrev s__law_told : Stmt := topS 47
abbrev s__law_order : Stmt := topS 38
abbrev s__law_one : Stmt := topS 36
abbrev s__law_room : Stmt := topS 37
abbrev s__law_road : Stmt := topS 39
abbrev s__law_web : Stmt := topS 40
abbrev s_law : Stmt := topS 48
abbrev s_initNoText : Stmt := (clsBody0 (topS 9)).getD 0 (.Pass ⟨0, 0, 0, 0⟩)
end Hed
namespace Un
open PySem PySem.Spec PyProof.Rows L2
theorem meets_enumB {u : Value} {ob : Obj} {Hh : Heap → Prop} (B : Begins u ob Hh) :
    Meets (Builtin.«enumerate.__new__» ⟨[.type "enumerate", u], []⟩) (fun _ R st => Hh st.heap ∧
      R (.ok (.ret (.ref (st.heap.push ob).objs.size))) { st with heap := (st.heap.push ob).push { cls := .type "enumerate", data := .fields #[.none, .bool false, .ref st.heap.objs.size, rawInt 0, .none, .none] } }) :=
  .of_wp fun prog w A R st hh => by
    obtain ⟨hp, gn, dr, tk, os⟩ := st
    obtain ⟨hu, hh⟩ := hh
    have hsub := sub_enumerate
    have it1 : ∀ {A' : Around} {E : Value → Shared → Prop} {Q : Value → Shared → Prop}, Q (.ref hp.objs.size) ⟨hp.push ob, gn, dr, tk, os⟩ → wpAny (model prog w) A' (pyIter u) Q E ⟨hp, gn, dr, tk, os⟩ :=
      fun q => B.iter prog w _ _ ⟨hp, gn, dr, tk, os⟩ _ hu q
    wp_walk using it1
    refine wpAny_stack_any fun stk => wpAny_pure ?_
    split
    · rename_i cc _ _ _ _ _
      cases (cc == Value.type "enumerate") <;> (wp_walk using it1; exact ⟨_, rfl, hh⟩)
    · wp_walk using it1
      exact ⟨_, rfl, hh⟩
section
variable {prog : Program} {w : World} {A : Around} {E : Value → Shared → Prop} {s : Shared}
theorem call_enumT {l : Addr} {its : Array Value} {Q : Value → Shared → Prop} (hT : s.heap.IsTuple l its)
    (k : ∀ h', IsEnum h' (s.heap.objs.size + 1) s.heap.objs.size 0 .none → h'.IsTupleIter s.heap.objs.size l 0 →
      (∀ b o, s.heap.get? b = some o → h'.get? b = some o) → Q (.ref (s.heap.objs.size + 1)) { s with heap := h' }) :
    wpAny (model prog w) A (call (.type "enumerate") [.ref l]) Q E s := by
  refine callType_new F.called_enumerate (by decide) (F.typeCall_enumerate_1 _) (F.newCall_enumerate_1 _) (fun obj => F.args_object_init_2 obj _) F.entry_enumerate_new
    (meets_enumB (begins_tuple l its)) ⟨hT, ?_⟩
  have sz : (s.heap.push { cls := .type "tuple_iterator", data := .fields #[.ref l, .int 0 0] }).objs.size = s.heap.objs.size + 1 := Heap.size_push ..
  show _ ∧ _
  rw [sz]
  have en : IsEnum ((s.heap.push { cls := .type "tuple_iterator", data := .fields #[.ref l, .int 0 0] }).push
      { cls := .type "enumerate", data := .fields #[.none, .bool false, .ref s.heap.objs.size, rawInt 0, .none, .none] }) (s.heap.objs.size + 1) s.heap.objs.size 0 .none := by
    have g := Heap.get?_push_size (s.heap.push { cls := .type "tuple_iterator", data := .fields #[.ref l, .int 0 0] })
      (o := { cls := .type "enumerate", data := .fields #[.none, .bool false, .ref s.heap.objs.size, rawInt 0, .none, .none] }) rfl
    rw [sz] at g
    exact g
  exact ⟨⟨_, en, rfl⟩, k _ en ⟨_, Heap.get?_push_of_some _ (Heap.get?_push_size _ rfl), rfl, rfl⟩ fun b o x => Heap.get?_push_of_some _ (Heap.get?_push_of_some _ x)⟩
end
def IteT (K : PySem.W.Frag) (a : Addr) : It :=
  ⟨fun i H => ∃ (xs : List V) (x : V), SqT K H a xs ∧ xs[i]? = some x,
   fun i H v H' => ∃ T x, v = .ref T ∧ H T = none ∧ H' = upd H T (.tup [.int (i : Nat), x]) ∧ ∀ xs, SqT K H a xs → xs[i]? = some x,
   fun i H => ∃ xs : List V, SqT K H a xs ∧ xs.length = i⟩
theorem turn_enumT {P : Program} {w : World} {K : PySem.W.Frag} {elts : List Expr} {kk : Nat} {tpos : Pos} (a e it : Addr) (hai : a ≠ it) (hae : a ≠ e) :
    Turn P w K (.Tuple elts kk tpos) (IteT K a) [e, it] e (fun i h => (∃ old, IsEnum h e it ((i : Nat) : Int) old) ∧ h.IsTupleIter it a i ∧ e ≠ it) where
  mem := by simp
  obj := fun i h st b hb => by
    obtain ⟨⟨old, he⟩, ⟨o, ho, hc, hd⟩, _⟩ := st
    have eb : b = e ∨ b = it := by simpa using hb
    rcases eb with z | z
    · subst z
      exact ⟨_, he, fun v q => nomatch q⟩
    · subst z
      exact ⟨o, ho, fun v q => by rw [hd] at q; cases q⟩
  keep := fun i h h' st k => let ⟨⟨old, he⟩, ⟨o, ho, r⟩, hne⟩ := st; ⟨⟨old, k e (by simp) _ he⟩, ⟨o, k it (by simp) o ho, r⟩, hne⟩
  item := by
    intro X hP hw hK hc i pins s σ H E I hf st hg
    subst hP hw hK
    obtain ⟨⟨old, he⟩, hit, hne⟩ := st
    obtain ⟨xs, x, hq, hx⟩ := hg
    obtain ⟨its, rv, p, hz⟩ := I.tuple hq
    obtain ⟨u, hu, ru⟩ := rv.get hx
    have hlt : i < its.toArray.size := by
      have z := (List.getElem?_eq_some_iff.mp hu).1
      simpa using z
    have hel : e < s.heap.objs.size := Heap.lt_size he
    have hil : it < s.heap.objs.size := by
      obtain ⟨_, q, _⟩ := hit
      exact Heap.lt_size q
    have D := Draws.tuple (prog := X.prog) (w := X.w) (A := X.A.in1) (I.ok.hd hc) it a hai its.toArray
    refine wpAny_pyNext_enum_itemC D he ⟨hit, p⟩ hlt hne (by
      intro z
      have z' : e = it ∨ e = a := by simpa using z
      rcases z' with z1 | z1
      · exact hne z1
      · exact hae z1.symm) fun y h' tk hy ho hst' hT hsz hk => ?_
    have eu : y = u := by
      have z : its.toArray[i]? = some y := hy
      have z2 : its[i]? = some y := by simpa using z
      exact Option.some.inj (z2.symm.trans hu)
    subst eu
    refine ⟨_, rfl, wpAny_letOwnedTupleGo_enum (s := { s with heap := h', toks := tk + 1 }) ho fun h'' he' sb => ?_⟩
    have hT2 : h''.get? s.heap.objs.size = some { cls := .type "tuple", data := .seq #[.int i tk, y] } := (sb.2 _ (Nat.ne_of_gt hel)).trans hT
    have new : ObjOk X.prog X.w (upd H s.heap.objs.size (.tup [.int (i : Nat), x])) h'' s.heap.objs.size (.tup [.int (i : Nat), x]) :=
      ⟨by show 2 ≤ sizeLine; decide, [.int i tk, y], .cons ⟨_, rfl⟩ (.cons ru .nil), ⟨_, hT2, rfl, _, rfl⟩⟩
    have I1 : Inv X pins σ (upd H s.heap.objs.size (.tup [.int (i : Nat), x])) { s with heap := h'', toks := tk + 1 } :=
      I.turnedNew (ch := [e, it]) (fun b ob hb q => (sb.2 b (fun z => hb (by simp [z]))).trans (hk b ob (fun z => hb (by simp [z])) (fun z => hb (by simp [z])) q)) hf (Nat.le_refl _) new
    refine ⟨.ref s.heap.objs.size, _, I1, rfl, ⟨_, x, rfl, I.hok.fresh (Nat.le_refl _), rfl, fun ys hy => by rw [I.tuple_inj hy hq]; exact hx⟩, ⟨⟨y, ?_⟩, ?_, hne⟩, fun b hb => ?_⟩
    · have e1 : ((i + 1 : Nat) : Int) = (i : Int) + 1 := by omega
      rw [e1]
      exact he'
    · obtain ⟨⟨o, q, r⟩, _⟩ := hst'
      exact ⟨o, (sb.2 it (Ne.symm hne)).trans q, r⟩
    · have hb' : b < s.heap.objs.size := by
        have eb : b = e ∨ b = it := by simpa using hb
        rcases eb with z | z
        · rw [z]; exact hel
        · rw [z]; exact hil
      rw [upd_ne (Nat.ne_of_lt hb')]
      exact (hf b hb).1
  done := by
    intro X hP hw hK hc i pins s σ H E I hf st hg
    subst hP hw hK
    obtain ⟨⟨old, he⟩, hit, hne⟩ := st
    obtain ⟨xs, hq, hx⟩ := hg
    obtain ⟨its, rv, p, hz⟩ := I.tuple hq
    have hl := rv.length
    have D := Draws.tuple (prog := X.prog) (w := X.w) (A := X.A.in1) (I.ok.hd hc) it a hai its.toArray
    have en : its.toArray.size = i := by
      simp
      omega
    obtain ⟨f0, f1, f2, f3, f4, f5⟩ := hf it (by simp)
    refine wpAny_pyNext_enum_endD D he (en.symm ▸ ⟨hit, p⟩) fun h' eb => ⟨rfl, I.turned (t' := s.toks) (fun b o hb q => eb b o hb q) f0 f1 f3 f4 f5⟩
  self := fun A i s Q E st h => let ⟨⟨_, he⟩, _⟩ := st; wpAny_pyIter_enum he h
def iEnumT (K : PySem.W.Frag) (ta : TA) : TI := fun σ H R => ta σ H fun vs H1 => ∃ a xs, vs = [.ref a] ∧ SqT K H1 a xs ∧ R (IteT K a) H1
theorem pi_enumT {X : Cx} {e : Expr} {ta : TA} {p pos tpos : Pos} {elts : List Expr} {kk : Nat} (hg : Gl X "enumerate") (hm : X.mg "enumerate" = none) (ha : PA X [e] ta)
    (hs : starEach [e] X.env = [(false, eval e X.env)] := by rfl) : PI X (.Tuple elts kk tpos) (.Call (.Name "enumerate" p) [e] [] pos) (iEnumT X.K ta) := by
  refine ⟨fun pins s σ H R I h => ?_⟩
  refine Call_ (ld_blt I hg hm boot_enumerate (PyProof.Rows.callWith_type1 (thn (ha.run pos pins s σ H _ I h) fun us s1 ⟨vs, H1, I1, r1, q1⟩ => ?_) hs rfl))
  obtain ⟨a, xs, ex, hq, q⟩ := q1
  subst ex
  cases r1 with
  | cons r rr =>
    cases rr
    cases r
    obtain ⟨its, rv, pt, hz⟩ := I1.tuple hq
    have hal : a < s1.heap.objs.size := by
      obtain ⟨o, ho, _⟩ := (show s1.heap.IsTuple a its.toArray from pt)
      exact Heap.lt_size ho
    refine call_enumT pt fun h' he hit hk => wpAny_pyIter_enum he ?_
    have I2 : Inv X pins σ H1 { s1 with heap := h' } := I1.kept (t' := s1.toks) hk
    refine ⟨s1.heap.objs.size + 1, [s1.heap.objs.size + 1, s1.heap.objs.size], _, _, H1, rfl, I2,
      turn_enumT a (s1.heap.objs.size + 1) s1.heap.objs.size (Nat.ne_of_lt hal) (Nat.ne_of_lt (Nat.lt_succ_of_lt hal)), ⟨⟨.none, he⟩, hit, Nat.succ_ne_self _⟩, fun b hb => ?_, q⟩
    have hle : s1.heap.objs.size ≤ b := by
      have e' : b = s1.heap.objs.size + 1 ∨ b = s1.heap.objs.size := by simpa using hb
      rcases e' with z | z
      · rw [z]; exact Nat.le_add_right _ _
      · rw [z]; exact Nat.le_refl _
    exact I1.fpOk hle (I1.hok.fresh hle)
end Un

namespace Uv
open PySem PySem.Spec PyProof.Rows L2
mutual
inductive Rm (h : Heap) : Value → PyData → Prop
  | non : Rm h .none .none
  | bl (b : Bool) : Rm h (.bool b) (.bool b)
  | int (i t) : Rm h (.int i t) (.int i)
  | str (x t) : Rm h (.str x t) (.str x)
  | lst {a o vs n xs} : h.get? a = some o → o.cls = .type "list" → o.data = .seq vs n → Rms h vs.toList xs → Rm h (.ref a) (.list xs)
  | tup {a o vs n xs} : h.get? a = some o → o.cls = .type "tuple" → o.data = .seq vs n → Rms h vs.toList xs → Rm h (.ref a) (.tuple xs)
  | dct {a o es n kvs} : h.get? a = some o → o.cls = .type "dict" → o.data = .dict es n → (a == sysModules) = false → Rms h (es.toList.map (·.key)) (kvs.map (·.1)) → Rms h (es.toList.map (·.val)) (kvs.map (·.2)) → Rm h (.ref a) (.dict kvs)
inductive Rms (h : Heap) : List Value → List PyData → Prop
  | nil : Rms h [] []
  | cons {v vs d ds} : Rm h v d → Rms h vs ds → Rms h (v :: vs) (d :: ds)
end
section
variable {P : Program} {w : World} {g : Heap}
mutual
theorem Rm.rd : ∀ {v : Value} {d : PyData}, Rm g v d → ∃ as, Reads g v d as
  | _, _, .non => ⟨_, .none⟩
  | _, _, .bl b => ⟨_, .bool b⟩
  | _, _, .int i t => ⟨_, .int i t⟩
  | _, _, .str x t => ⟨_, .str x t⟩
  | _, _, .lst a b c r => let ⟨_, q⟩ := Rms.rd r; ⟨_, .list a b c q⟩
  | _, _, .tup a b c r => let ⟨_, q⟩ := Rms.rd r; ⟨_, .tuple a b c q⟩
  | _, _, .dct a b c _ r s => let ⟨_, q⟩ := Rms.rd r; let ⟨_, t⟩ := Rms.rd s; ⟨_, .dict a b c q t⟩
theorem Rms.rd : ∀ {vs : List Value} {ds : List PyData}, Rms g vs ds → ∃ as, ReadsAll g vs ds as
  | _, _, .nil => ⟨_, .nil⟩
  | _, _, .cons r s => let ⟨_, q⟩ := Rm.rd r; let ⟨_, t⟩ := Rms.rd s; ⟨_, .cons q t⟩
end
mutual
theorem Rm.rk : ∀ {v : Value} {d : PyData}, Rm g v d → d.showable = true → d.shown.length ≤ sizeLine → ∃ l, ReadAtMost g d.depth l ∧ ReprK P w l g d.depth v d.shown
  | _, _, .non, _, _ => ⟨[], nofun, by rw [PyData.shown]; exact .of_is ReprIs.none _ _ _⟩
  | _, _, .bl b, _, _ => ⟨[], nofun, by rw [PyData.shown]; exact .of_is (ReprIs.bool b) _ _ _⟩
  | _, _, .int i t, e, _ => ⟨[], nofun, by rw [PyData.shown]; exact .of_is (ReprIs.int t (by simpa [PyData.showable] using e)) _ _ _⟩
  | _, _, .str x t, _, z => ⟨[], nofun, by rw [PyData.shown] at z ⊢; exact .of_is (ReprIs.str x t z) _ _ _⟩
  | _, _, .lst (a := p) (vs := vs) (xs := ds) o1 o2 o3 q, e, z => by
    rw [PyData.shown] at z
    obtain ⟨_, full⟩ := Rm.rd (.lst o1 o2 o3 q)
    obtain ⟨l, l1, l2⟩ := Rms.rk q (by simpa [PyData.showable] using e) fun t m => Nat.le_trans (listText_mem_le m) z
    have off : p ∉ l := not_mem_of_deeper full (by rw [PyData.depth]; omega) l1
    refine ⟨p :: l, l1.cons full (by rw [PyData.depth]; omega), ?_⟩
    rw [PyData.depth, PyData.shown]
    obtain ⟨v⟩ := vs
    cases v with
    | cons x v => exact ReprK.list o1 o2 o3 off (by simpa using l2.length_eq) fun i y m => l2.item i y (by simpa using m)
    | nil =>
      have q' : Rms g [] ds := q
      cases q'
      rw [PyData.shownAll, listText_nil]
      exact ReprK.listEmpty o1 o2 o3
  | _, _, .tup (a := p) (xs := ds) o1 o2 o3 q, e, z => by
    rw [PyData.shown] at z
    obtain ⟨_, full⟩ := Rm.rd (.tup o1 o2 o3 q)
    obtain ⟨l, l1, l2⟩ := Rms.rk q (by simpa [PyData.showable] using e) fun t m => Nat.le_trans (tupleText_mem_le m) z
    have off : p ∉ l := not_mem_of_deeper full (by rw [PyData.depth]; omega) l1
    refine ⟨p :: l, l1.cons full (by rw [PyData.depth]; omega), ?_⟩
    rw [PyData.depth, PyData.shown]
    exact ReprK.tuple o1 o2 o3 off l2
  | _, _, .dct (a := p) (es := es) (kvs := ps) o1 o2 o3 o4 q1 q2, e, z => by
    rw [PyData.shown] at z
    obtain ⟨_, full⟩ := Rm.rd (.dct o1 o2 o3 o4 q1 q2)
    obtain ⟨e1, e2⟩ := PyData.showableKv_split ps (by simpa [PyData.showable] using e)
    obtain ⟨l, l1, l2⟩ := Rms.rk q1 e1 fun t m => let ⟨_, u1, u2⟩ := PyData.shownKv_key_le ps t m; Nat.le_trans u2 (Nat.le_trans (dictText_mem_le u1) z)
    obtain ⟨k, k1, k2⟩ := Rms.rk q2 e2 fun t m => let ⟨_, u1, u2⟩ := PyData.shownKv_val_le ps t m; Nat.le_trans u2 (Nat.le_trans (dictText_mem_le u1) z)
    have lk : ReadAtMost g (PyData.depthKv ps) (l ++ k) := (l1.mono (PyData.depthAll_keys_le ps)).append (k1.mono (PyData.depthAll_vals_le ps))
    have off : p ∉ l ++ k := not_mem_of_deeper full (by rw [PyData.depth]; omega) lk
    refine ⟨p :: (l ++ k), lk.cons full (by rw [PyData.depth]; omega), ?_⟩
    rw [PyData.depth, PyData.shown, PyData.shownKv_eq]
    exact ReprK.dict o1 o2 o3 o4 off (ReprEntriesK.of_two es.toList _ _ (l2.more_le (fun _ => List.mem_append_left _) (PyData.depthAll_keys_le ps)) (k2.more_le (fun _ => List.mem_append_right _) (PyData.depthAll_vals_le ps)))
theorem Rms.rk : ∀ {vs : List Value} {ds : List PyData}, Rms g vs ds → PyData.showableAll ds = true → (∀ t ∈ PyData.shownAll ds, t.length ≤ sizeLine) → ∃ l, ReadAtMost g (PyData.depthAll ds) l ∧ ReprAllK P w l g (PyData.depthAll ds) vs (PyData.shownAll ds)
  | _, _, .nil, _, _ => ⟨[], nofun, by rw [PyData.shownAll]; exact .nil⟩
  | _, _, .cons (d := d) (ds := ds) q r, e, z => by
    obtain ⟨e1, e2⟩ : d.showable = true ∧ PyData.showableAll ds = true := by simpa [PyData.showableAll] using e
    rw [PyData.shownAll] at z
    obtain ⟨l, l1, l2⟩ := Rm.rk q e1 (z _ (List.mem_cons_self ..))
    obtain ⟨k, k1, k2⟩ := Rms.rk r e2 fun t m => z t (List.mem_cons_of_mem _ m)
    rw [PyData.depthAll, PyData.shownAll]
    exact ⟨l ++ k, (l1.mono (Nat.le_max_left _ _)).append (k1.mono (Nat.le_max_right _ _)), .cons ((l2.more fun _ => List.mem_append_left _).level_le (Nat.le_max_left _ _)) (k2.more_le (fun _ => List.mem_append_right _) (Nat.le_max_right _ _))⟩
end
theorem Rm.shows {a : Addr} {d : PyData} (r : Rm g (.ref a) d) (e : d.showable = true) (z : d.shown.length ≤ sizeLine) : ∃ T i, ShowsBy P w g a d T i := by
  obtain ⟨_, full⟩ := r.rd
  cases r with
  | lst o1 o2 o3 q =>
    rename_i o vs n ds
    rw [PyData.shown] at z
    obtain ⟨l, l1, l2⟩ := Rms.rk (P := P) (w := w) q (by simpa [PyData.showable] using e) fun t m => Nat.le_trans (listText_mem_le m) z
    have off : a ∉ l := not_mem_of_deeper full (by rw [PyData.depth]; omega) l1
    refine ⟨"list", "list.__repr__", F.slot_list_repr.toG, F.slot_list_str, F.slot_list_format, fun s k => ⟨o, k _ _ o1, o2⟩, fun A E s Q ag au k hq => ?_⟩
    rw [PyData.depth] at au
    rw [PyData.shown] at hq
    obtain ⟨v⟩ := vs
    cases v with
    | cons x v => exact call_list_reprK o1 o2 o3 off (by simpa using l2.length_eq) (fun i y m => l2.item i y (by simpa using m)) ag (fun b _ => Clear.nil b) au k hq z
    | nil =>
      have q' : Rms g [] ds := q
      cases q'
      rw [PyData.shownAll, listText_nil] at hq
      exact call_list_repr_empty ⟨o, k _ _ o1, o2⟩ (k _ _ o1) o3 (hq s.heap _ _ fun _ _ y => y)
  | tup o1 o2 o3 q =>
    rename_i o vs n ds
    rw [PyData.shown] at z
    obtain ⟨l, l1, l2⟩ := Rms.rk (P := P) (w := w) q (by simpa [PyData.showable] using e) fun t m => Nat.le_trans (tupleText_mem_le m) z
    have off : a ∉ l := not_mem_of_deeper full (by rw [PyData.depth]; omega) l1
    refine ⟨"tuple", "tuple.__repr__", F.slot_tuple_repr, F.slot_tuple_str, F.slot_tuple_format, fun s k => ⟨o, k _ _ o1, o2⟩, fun A E s Q ag au k hq => ?_⟩
    rw [PyData.depth] at au
    rw [PyData.shown] at hq
    exact call_tuple_reprK o1 o2 o3 off l2 ag (fun b _ => Clear.nil b) au k hq z
  | dct o1 o2 o3 o4 q1 q2 =>
    rename_i o es n ps
    rw [PyData.shown] at z
    obtain ⟨e1, e2⟩ := PyData.showableKv_split ps (by simpa [PyData.showable] using e)
    obtain ⟨l, l1, l2⟩ := Rms.rk (P := P) (w := w) q1 e1 fun t m => let ⟨_, u1, u2⟩ := PyData.shownKv_key_le ps t m; Nat.le_trans u2 (Nat.le_trans (dictText_mem_le u1) z)
    obtain ⟨k, k1, k2⟩ := Rms.rk (P := P) (w := w) q2 e2 fun t m => let ⟨_, u1, u2⟩ := PyData.shownKv_val_le ps t m; Nat.le_trans u2 (Nat.le_trans (dictText_mem_le u1) z)
    have lk : ReadAtMost g (PyData.depthKv ps) (l ++ k) := (l1.mono (PyData.depthAll_keys_le ps)).append (k1.mono (PyData.depthAll_vals_le ps))
    have off : a ∉ l ++ k := not_mem_of_deeper full (by rw [PyData.depth]; omega) lk
    refine ⟨"dict", "dict.__repr__", F.slot_dict_repr, F.slot_dict_str, F.slot_dict_format, fun s k => ⟨o, k _ _ o1, o2⟩, fun A E s Q ag au kk hq => ?_⟩
    rw [PyData.depth] at au
    rw [PyData.shown, PyData.shownKv_eq] at hq
    exact call_dict_reprK o1 o2 o3 o4 off (ReprEntriesK.of_two es.toList _ _ (l2.more_le (fun _ => List.mem_append_left _) (PyData.depthAll_keys_le ps)) (k2.more_le (fun _ => List.mem_append_right _) (PyData.depthAll_vals_le ps))) ag (fun b _ => Clear.nil b) au kk hq (by rw [← PyData.shownKv_eq]; exact z)
theorem Rm.repr {A : Around} {E : Value → Shared → Prop} {s : Shared} {Q : Value → Shared → Prop} {a : Addr} {d : PyData} (r : Rm s.heap (.ref a) d) (e : d.showable = true) (ag : A.guards = some []) (au : A.units + (d.depth + 1) < cLine) (hq : ∀ h' u tk, (∀ b o, s.heap.get? b = some o → h'.get? b = some o) → Q (.str d.shown u) { s with heap := h', toks := tk }) (z : d.shown.length ≤ sizeLine) : wpAny (model P w) A (call (.builtin "repr") [.ref a]) Q E s := by
  obtain ⟨T, i, S⟩ := r.shows (P := P) (w := w) e z
  have k0 : ∀ (b : Addr) (o : Obj), s.heap.get? b = some o → s.heap.get? b = some o := fun _ _ y => y
  exact call_repr_slot (by omega) (S.typeIs s k0) S.slotRepr (S.call A.in1 E s _ ag (by show A.units + 1 + d.depth < cLine; omega) k0 fun h' u tk k => ⟨_, _, rfl, hq h' u tk k⟩)
end
end Uv

namespace Uv
open PySem PySem.Spec PyProof.Rows L2
theorem dct_no (a : Addr) (es : Array DictEntry) (n : Nat) (p : Option Addr) (c : Array (Option Value)) (x : Str) (t : Tok) : Meets (Builtin.«dict.__eq__» ⟨[.ref a, .str x t], []⟩) (fun _ R s => s.heap.get? a = some { cls := .type "dict", dict := p, data := .dict es n, slots := c } ∧ R (.ok (.ret .notImplemented)) s) :=
  .of_wp fun pr w A R s h => by
    obtain ⟨hp, g, d, tk, os⟩ := s
    obtain ⟨ho, h⟩ := h
    have no := F.sub_str_dict
    wp_walk using wpAny_loadPart' ho
    exact ⟨_, rfl, h⟩
theorem str_no (a : Addr) (k : Value) (es : Array DictEntry) (n : Nat) (p : Option Addr) (c : Array (Option Value)) (x : Str) (t : Tok) : Meets (Builtin.«str.__eq__» ⟨[.str x t, .ref a], []⟩) (fun _ R s => s.heap.get? a = some { cls := k, dict := p, data := .dict es n, slots := c } ∧ R (.ok (.ret .notImplemented)) s) :=
  .of_wp fun pr w A R s h => by
    obtain ⟨hp, g, d, tk, os⟩ := s
    obtain ⟨ho, h⟩ := h
    wp_walk using wpAny_loadPart' ho, wpAny_load ho
    exact ⟨_, rfl, h⟩
theorem dct_str {A : Around} {s : Shared} {a : Addr} {es : Array DictEntry} {n : Nat} {p : Option Addr} {c : Array (Option Value)} (x : Str) (t : Tok) (ho : s.heap.get? a = some { cls := .type "dict", dict := p, data := .dict es n, slots := c }) (hu : A.units < cLine) : SeqAt.RcAt A s (.ref a) (.str x t) false := fun pr w E Q h =>
  SeqAt.rc_eq_decline_or (k := false) ⟨_, ho, rfl⟩ (typeIs_str s x t) (by decide) F.sub_str_dict F.slot_dict_eq F.slot_str_eq_refl
    (fun _ q => call_meets F.slot_dict_eq ⟨_, ho, rfl⟩ F.entry_dict_eq (F.args_dict_eq_2 _ _) (dct_no a es n p c x t) ⟨ho, q⟩)
    (fun _ q => call_meets F.slot_str_eq_refl (typeIs_str s x t) F.entry_str_eq (F.args_str_eq_2 _ _) (str_no a (.type "dict") es n p c x t) ⟨ho, q⟩)
    (fun _ q => wpAny_of_eq (rfl : isSame (.ref a) (.str x t) = pure false) q) (.inr hu) h
end Uv

namespace Uv
open PySem PySem.Spec PyProof.Rows L2
open Evl (Ex)
def Plain (o : Obj) : Prop := o.cls = .type "tuple" ∧ o.dict = none
abbrev fz (o : Obj) (xs : List V) : HO := .frz o (.tup xs)
def tTupF (t : TA) : TE := fun σ H Q => t σ H fun xs H1 => xs.length ≤ sizeLine ∧ ∀ p o, H1 p = none → Plain o → Q (.ref p) (upd H1 p (fz o xs))
theorem pe_tupF {X : Cx} {es : List Expr} {t : TA} {pos : Pos} {x1} (h : PA X es t) : PE X (.Tuple es x1 pos) (tTupF t) := by
  refine ⟨fun pins s σ H Q I hq => ?_⟩
  refine wpAny_Tuple_spliced (thn (h.run pos pins s σ H _ I hq) fun us s1 ⟨xs, H1, I1, r, z, q⟩ => ⟨by rw [← r.length]; exact z, ?_⟩)
  have I2 : Inv X pins σ (upd H1 s1.heap.objs.size (fz { cls := .type "tuple", data := .seq us.toArray } xs)) { s1 with heap := s1.heap.push { cls := .type "tuple", data := .seq us.toArray }, toks := s1.toks } :=
    I1.laid (t' := s1.toks) (fun b u e => Heap.get?_push_of_some _ e) (Nat.le_refl _) (show ObjOk X.prog X.w _ _ _ (.frz _ (.tup xs)) from ⟨Heap.get?_push_size _ rfl, z, us, r, IsTup.new _ _⟩)
  exact ⟨.ref s1.heap.objs.size, _, I2, rfl, q _ _ (I1.hok.fresh (Nat.le_refl _)) ⟨rfl, rfl⟩⟩
def rTupF (K : PySem.W.Frag) : List V → Hp → VK → Prop := fun xs H Q => ∃ p ys, xs = [.ref p] ∧ ((SqL K H p ys ∧ ∀ l o, H l = none → Plain o → Q (.ref l) (upd H l (fz o ys))) ∨ (SqT K H p ys ∧ Q (.ref p) H))
theorem cr_tupF {X : Cx} : CallR X (.type "tuple") (rTupF X.K) := by
  intro pins s σ H xs us Q I r h
  obtain ⟨p, ys, rfl, h⟩ := h
  rcases h with ⟨hq, q⟩ | ⟨ht, q⟩
  · obtain ⟨u, rfl, rx⟩ := vals1 r
    cases rx
    obtain ⟨its, r', pl, hz⟩ := I.list hq
    have hlen := r'.length
    refine call_tuple_list pl.isList (fun h' kp => ?_) (by simp only [List.size_toArray] <;> omega)
    have I1 : Inv X pins σ H { s with heap := h' } := I.kept (t' := s.toks) kp
    have I2 : Inv X pins σ (upd H h'.objs.size (fz { cls := .type "tuple", data := .seq its.toArray } ys)) { s with heap := h'.push { cls := .type "tuple", data := .seq its.toArray } } :=
      I1.laid (t' := s.toks) (fun b o e => Heap.get?_push_of_some _ e) (Nat.le_refl _) (show ObjOk X.prog X.w _ _ _ (.frz _ (.tup ys)) from ⟨Heap.get?_push_size _ rfl, hz, its, r', IsTup.new _ _⟩)
    exact ⟨.ref h'.objs.size, _, I2, rfl, q _ _ (I1.hok.fresh (Nat.le_refl _)) ⟨rfl, rfl⟩⟩
  · exact call_tupleT pins s σ H _ us Q I r ⟨p, ys, rfl, ht, q⟩
def rCatF (K : PySem.W.Frag) : R2 := fun x y H Q => ∃ a b xs ys, x = .ref a ∧ y = .ref b ∧ SqT K H a xs ∧ SqT K H b ys ∧ xs.length + ys.length ≤ sizeLine ∧
  (xs = [] → Q (.ref b) H) ∧ (xs ≠ [] → ys = [] → Q (.ref a) H) ∧ (xs ≠ [] → ys ≠ [] → ∀ p o, H p = none → Plain o → Q (.ref p) (upd H p (fz o (xs ++ ys))))
theorem op_catF {X : Cx} : OpR X (binaryOp .Add) (rCatF X.K) := by
  intro pins s σ H x y v u Q I rx ry h
  obtain ⟨a, b, xs, ys, rfl, rfl, ha, hb, hz, q0, q1, q2⟩ := h
  cases rx
  cases ry
  obtain ⟨its, r1, p1, _⟩ := I.tuple ha
  obtain ⟨its2, r2, p2, _⟩ := I.tuple hb
  by_cases hx : xs = []
  · subst hx
    cases r1
    exact cat_tup0 p1 p2 ⟨.ref b, H, I, rfl, q0 rfl⟩
  · refine HT.cat_tup p1 p2 (fun z => hx (r1.nil_iff.mp z)) (fun z => ⟨.ref a, H, I, rfl, q1 hx (r2.nil_iff.mp z)⟩) (fun z => ?_) (by rw [← r1.length, ← r2.length]; exact hz)
    have hy : ys ≠ [] := fun w => z (r2.nil_iff.mpr w)
    have ok := I.laid (t' := s.toks) (o := fz _ (xs ++ ys)) (fun b ob q => Heap.get?_push_of_some _ q) (Nat.le_refl _) (show ObjOk X.prog X.w _ _ _ (.frz _ (.tup (xs ++ ys))) from ⟨Heap.get?_push_size _ rfl, by rw [List.length_append]; exact hz, _, r1.append r2, IsTup.new _ _⟩)
    exact ⟨.ref s.heap.objs.size, _, ok, rfl, q2 hx hy _ _ (I.hok.fresh (Nat.le_refl _)) ⟨rfl, rfl⟩⟩
def rSlF (K : PySem.W.Frag) : V → Option Int → Option Int → Hp → VK → Prop := fun x lo hi H Q => ∃ a xs, x = .ref a ∧ SqT K H a xs ∧
  (HT.sIx xs.length 0 lo = 0 ∧ HT.sIx xs.length xs.length hi = xs.length → Q (.ref a) H) ∧ (¬ (HT.sIx xs.length 0 lo = 0 ∧ HT.sIx xs.length xs.length hi = xs.length) → ∀ p o, H p = none → Plain o → Q (.ref p) (upd H p (fz o (cutV xs lo hi))))
theorem sl_tupF {X : Cx} : SlR X (rSlF X.K) := by
  intro pins s σ H x v vl vu lo hi sl Q I rx hs pl pu h
  obtain ⟨a, xs, rfl, hx, q1, q2⟩ := h
  cases rx
  obtain ⟨its, r, ht, hz⟩ := I.tuple hx
  have hlen : its.toArray.size = xs.length := by rw [List.size_toArray]; exact r.length.symm
  refine ⟨"tuple", _, PyProof.Rows.slot_tuple_getitem.lookup, ht.typeIs, ?_⟩
  by_cases hw : HT.sIx xs.length 0 lo = 0 ∧ HT.sIx xs.length xs.length hi = xs.length
  · exact getItem_tuple_whole ht hs pl pu (by rw [hlen]; exact hw) ⟨.ref a, H, I, rfl, q1 hw⟩
  · refine HT.getItem_tuple_cut ht hs pl pu (by rw [hlen]; exact hw) ?_ (by rw [hlen]; exact hz)
    rw [hlen]
    have ok := I.laid (t' := s.toks) (o := fz _ (cutV xs lo hi)) (fun b ob q => Heap.get?_push_of_some _ q) (Nat.le_refl _) (show ObjOk X.prog X.w _ _ _ (.frz _ (.tup (cutV xs lo hi))) from ⟨Heap.get?_push_size _ rfl, Nat.le_trans (cutV_length xs lo hi) hz, _, (r.drop (HT.sIx xs.length 0 lo)).take (HT.sIx xs.length xs.length hi - HT.sIx xs.length 0 lo), IsTup.new _ _⟩)
    exact ⟨.ref s.heap.objs.size, _, ok, rfl, q2 hw _ _ (I.hok.fresh (Nat.le_refl _)) ⟨rfl, rfl⟩⟩
theorem u65 {k : Nat} {A : Around} (r : Room k A) : A.units + 65 < cLine := by have := r.un; omega
end Uv

namespace Uv
open PySem PySem.Spec PyProof.Rows L2
open Evl (Ex)
class KK where
  fr : PySem.W.Frag
  /-- the exception classes of the program, by number -/
  cl : Nat → Option Addr
  /-- defs that are told as values, by number -/
  fn : Nat → Option Addr
  /-- the class Hall -/
  hall : Addr
abbrev K [kk : KK] : PySem.W.Frag := kk.fr
variable [kk : KK]
abbrev PD := PyData
abbrev scrD (ds : List PD) : PD := .dict [(.none, .list ds)]
theorem sqx {K : PySem.W.Frag} {H H' : Hp} {a : Addr} {xs : List V} (e : Ex H H') (h : SqL K H a xs) : SqL K H' a xs := h.elim (fun r => .inl (r.elim (fun r => .inl (e _ _ r)) fun ⟨o, r⟩ => .inr ⟨o, e _ _ r⟩)) .inr
abbrev Hs := Addr → Prop
open Classical in
noncomputable def hid (S : Hs) (H : Hp) : Hp := fun x => if S x then none else H x
section
variable {S S' : Hs} {H H' : Hp} {x p : Addr} {o : HO}
theorem hid_in (h : S x) : hid S H x = none := by unfold hid; rw [if_pos h]
theorem hid_out (h : ¬ S x) : hid S H x = H x := by unfold hid; rw [if_neg h]
theorem hid_some (h : hid S H x = some o) : ¬ S x ∧ H x = some o := by
  by_cases c : S x
  · rw [hid_in c] at h; cases h
  · rw [hid_out c] at h; exact ⟨c, h⟩
theorem hid_ex (e : Ex H H') : Ex (hid S H) (hid S H') := fun x o h => by
  obtain ⟨c, h⟩ := hid_some h
  rw [hid_out c]; exact e x o h
theorem hid_le : Ex (hid S H) H := fun x o h => (hid_some h).2
theorem hid_sub (h : ∀ x, S' x → S x) : Ex (hid S H) (hid S' H) := fun x o q => by
  obtain ⟨c, q⟩ := hid_some q
  rw [hid_out fun z => c (h x z)]; exact q
theorem hid_eq (h : ∀ x, S x ↔ S' x) : hid S H = hid S' H := by
  funext x
  by_cases c : S x
  · rw [hid_in c, hid_in ((h x).mp c)]
  · rw [hid_out c, hid_out fun z => c ((h x).mpr z)]
def Al (S : Hs) (H : Hp) : Prop := ∀ x, S x → H x ≠ none
theorem Al.ex (a : Al S H) (e : Ex H H') : Al S H' := fun x hx z => by
  cases q : H x with
  | none => exact a x hx q
  | some o => rw [e x o q] at z; cases z
theorem Al.new (a : Al S H) (hp : H p = none) : ¬ S p := fun z => a p z hp
theorem new_ok (al : Al S H) (hp : H p = none) : hid S (upd H p o) p = some o := by rw [hid_out (al.new hp), upd_same]
theorem hid_cons (e : Ex H H') (hp : H p = none) : Ex (hid S H) (hid (fun x => x = p ∨ S x) H') := fun x o h => by
  obtain ⟨c, h⟩ := hid_some h
  have n : ¬ (x = p ∨ S x) := fun z => z.elim (fun z => by subst z; rw [hp] at h; cases h) c
  rw [hid_out n]; exact e x o h
end
abbrev dciD (ks : List Int) (ds : List PD) : PD := .dict [(.bool true, .list [.list (ks.map PyData.int), .list ds])]
def exFld : Nat → List Str
  | 1 => ["word", "path"]
  | 6 => ["bound"]
  | 11 => ["number"]
  | 14 => ["room"]
  | 15 => ["fault"]
  | 16 => ["line"]
  | 17 => ["road"]
  | 18 => ["road"]
  | 19 => ["house"]
  | 20 => ["end"]
  | 21 => ["number"]
  | _ => []
abbrev heldD (n : Nat) (ds : List PD) : PD := .dict [(.none, .int (n : Int)), (.none, .list ds)]
abbrev fnD (n : Nat) : PD := .dict [(.none, .int (n : Int))]
abbrev hallD (ws st : List PD) (bz : Bool) (lg : List PD) : PD := .dict [(.none, .tuple ws), (.none, .tuple st), (.none, .bool bz), (.none, .list lg)]
def ExH (C : Addr) (od : Option Addr) (a : Addr) : HO := .ext fun h => ∃ (oe : Obj) (vs : Array Value), h.get? a = some oe ∧ Zc (.ref C) od oe ∧ oe.data = .fields vs
def DcAt (H : Hp) (od : Option Addr) (fs : List Str) (xs : List V) : Prop := match fs with
  | [] => od = none ∧ xs = []
  | _ => ∃ dd, od = some dd ∧ H dd = some (.xd (fs.zip xs)) ∧ fs.length = xs.length
theorem DcAt.ex {H H' : Hp} (e : Ex H H') {od : Option Addr} {fs : List Str} {xs : List V} (h : DcAt H od fs xs) : DcAt H' od fs xs := by
  cases fs with
  | nil => exact h
  | cons f fs =>
    obtain ⟨dd, h1, h2, h3⟩ := h
    exact ⟨dd, h1, e _ _ h2, h3⟩
abbrev hallF (w s : V) (bz : Bool) (l : Addr) : List (Str × V) := [("webs", w), ("stood", s), ("busy", .bl bz), ("logged", .ref l)]
mutual
inductive Rp (H : Hp) : V → PD → Prop
  | non : Rp H .non .none
  | bl (b : Bool) : Rp H (.bl b) (.bool b)
  | int (i : Int) : Rp H (.int i) (.int i)
  | str (x : Str) : Rp H (.str x) (.str x)
  | lst {a : Addr} {xs : List V} {ds : List PD} : H a = some (.lst xs) → RpAll H xs ds → Rp H (.ref a) (.list ds)
  | tup {a : Addr} {o : Obj} {xs : List V} {ds : List PD} : H a = some (fz o xs) → Plain o → RpAll H xs ds → Rp H (.ref a) (.tuple ds)
  | dct {a : Addr} {ks : List Str} {xs : List V} {ds : List PD} {ps : List (PD × PD)} : H a = some (.dK ((ks.map Sum.inr).zip xs)) → ks.length = xs.length → ps = (ks.map PyData.str).zip ds → RpAll H xs ds → Rp H (.ref a) (.dict ps)
  | dci {a : Addr} {ks : List Int} {xs : List V} {ds : List PD} : H a = some (.dK ((ks.map Sum.inl).zip xs)) → ks.length = xs.length → RpAll H xs ds → Rp H (.ref a) (dciD ks ds)
  | scr {a : Addr} {xs : List V} {ds : List PD} : SqL K H a xs → RpAll H xs ds → Rp H (.ref a) (scrD ds)
  | exo {a C : Addr} {n : Nat} {od : Option Addr} {xs : List V} {ds : List PD} : kk.cl n = some C → H a = some (ExH C od a) → DcAt H od (exFld n) xs → RpAll H xs ds → Rp H (.ref a) (heldD n ds)
  | «fun» {a : Addr} {n : Nat} : kk.fn n = some a → Rp H (.ref a) (fnD n)
  | hal {a dx l : Addr} {w s : V} {lv : List V} {ws st lg : List PD} {bz : Bool} : H a = some (.ins kk.hall dx (hallF w s bz l)) → H l = some (.lst lv) → Rp H w (.tuple ws) → Rp H s (.tuple st) → RpAll H lv lg → Rp H (.ref a) (hallD ws st bz lg)
inductive RpAll (H : Hp) : List V → List PD → Prop
  | nil : RpAll H [] []
  | cons {v : V} {vs : List V} {d : PD} {ds : List PD} : Rp H v d → RpAll H vs ds → RpAll H (v :: vs) (d :: ds)
end
mutual
theorem Rp.ex {H H' : Hp} (e : Ex H H') : ∀ {v : V} {d : PD}, Rp H v d → Rp H' v d
  | _, _, .non => .non
  | _, _, .bl b => .bl b
  | _, _, .int i => .int i
  | _, _, .str x => .str x
  | _, _, .lst h r => .lst (e _ _ h) (RpAll.ex e r)
  | _, _, .tup h p r => .tup (e _ _ h) p (RpAll.ex e r)
  | _, _, .dct h l q r => .dct (e _ _ h) l q (RpAll.ex e r)
  | _, _, .dci h l r => .dci (e _ _ h) l (RpAll.ex e r)
  | _, _, .scr h r => .scr (sqx e h) (RpAll.ex e r)
  | _, _, .exo c h d r => .exo c (e _ _ h) (d.ex e) (RpAll.ex e r)
  | _, _, .«fun» h => .«fun» h
  | _, _, .hal h l w s r => .hal (e _ _ h) (e _ _ l) (Rp.ex e w) (Rp.ex e s) (RpAll.ex e r)
theorem RpAll.ex {H H' : Hp} (e : Ex H H') : ∀ {vs : List V} {ds : List PD}, RpAll H vs ds → RpAll H' vs ds
  | _, _, .nil => .nil
  | _, _, .cons h r => .cons (Rp.ex e h) (RpAll.ex e r)
end
mutual
theorem Rp.dp {H : Hp} : ∀ {v : V} {d : PD}, Rp H v d → d.hasDict = false → Dp K H v d
  | _, _, .non, _ => .non
  | _, _, .bl b, _ => .bl b
  | _, _, .int i, _ => .int i
  | _, _, .str x, _ => .str x
  | _, _, .lst h r, n => .lst (.inl (.inl h)) (RpAll.dp r (by simpa [PyData.hasDict] using n))
  | _, _, .tup h _ r, n => .tup (.inl (.inr ⟨_, h⟩)) (RpAll.dp r (by simpa [PyData.hasDict] using n))
  | _, _, .dct h _ _ _, n => by simp [PyData.hasDict] at n
  | _, _, .dci h _ _, n => by simp [PyData.hasDict] at n
  | _, _, .scr h r, n => by simp [PyData.hasDict] at n
  | _, _, .exo _ _ _ _, n => by simp [PyData.hasDict] at n
  | _, _, .«fun» _, n => by simp [PyData.hasDict] at n
  | _, _, .hal _ _ _ _ _, n => by simp [PyData.hasDict] at n
theorem RpAll.dp {H : Hp} : ∀ {vs : List V} {ds : List PD}, RpAll H vs ds → PyData.hasDictAll ds = false → DpAll K H vs ds
  | _, _, .nil, _ => .nil
  | _, _, .cons h r, n => by
    simp only [PyData.hasDictAll, Bool.or_eq_false_iff] at n
    exact .cons (Rp.dp h n.1) (RpAll.dp r n.2)
end
section
variable {H : Hp}
theorem RpAll.length : ∀ {vs : List V} {ds : List PD}, RpAll H vs ds → vs.length = ds.length
  | _, _, .nil => rfl
  | _, _, .cons _ r => by rw [List.length_cons, List.length_cons, RpAll.length r]
theorem RpAll.get : ∀ {vs : List V} {ds : List PD} {i : Nat} {d : PD}, RpAll H vs ds → ds[i]? = some d → ∃ v, vs[i]? = some v ∧ Rp H v d
  | _, _, _, _, .nil, e => by simp at e
  | _, _, 0, _, .cons h _, e => by
    simp at e
    subst e
    exact ⟨_, rfl, h⟩
  | _, _, i + 1, d, .cons _ r, e => by
    obtain ⟨v, h1, h2⟩ := RpAll.get (i := i) (d := d) r (by simpa using e)
    exact ⟨v, by simpa using h1, h2⟩
theorem RpAll.append : ∀ {vs ws : List V} {ds es : List PD}, RpAll H vs ds → RpAll H ws es → RpAll H (vs ++ ws) (ds ++ es)
  | _, _, _, _, .nil, s => s
  | _, _, _, _, .cons h r, s => .cons h (RpAll.append r s)
theorem RpAll.drop : ∀ {vs : List V} {ds : List PD} (n : Nat), RpAll H vs ds → RpAll H (vs.drop n) (ds.drop n)
  | _, _, 0, r => by simpa using r
  | _, _, n + 1, .nil => by simpa using RpAll.nil
  | _, _, n + 1, .cons _ r => by simpa using RpAll.drop n r
theorem RpAll.take : ∀ {vs : List V} {ds : List PD} (n : Nat), RpAll H vs ds → RpAll H (vs.take n) (ds.take n)
  | _, _, 0, r => by simpa using RpAll.nil
  | _, _, n + 1, .nil => by simpa using RpAll.nil
  | _, _, n + 1, .cons h r => by simpa using RpAll.cons h (RpAll.take n r)
theorem RpAll.at {vs : List V} {ds : List PD} {i : Int} {d : PD} (r : RpAll H vs ds) (h : atI ds i = some d) : ∃ v, atI vs i = some v ∧ Rp H v d := by
  unfold atI at h ⊢
  rw [r.length]
  cases e : ixN ds.length i with
  | none => rw [e] at h; cases h
  | some j =>
    rw [e] at h
    exact r.get (i := j) h
theorem RpAll.set : ∀ {vs : List V} {ds : List PD} {v : V} {d : PD} (n : Nat), RpAll H vs ds → Rp H v d → RpAll H (vs.set n v) (ds.set n d)
  | _, _, _, _, _, .nil, _ => by simpa using RpAll.nil
  | _, _, _, _, 0, .cons _ r, h => by simpa using RpAll.cons h r
  | _, _, _, _, n + 1, .cons h0 r, h => by simpa using RpAll.cons h0 (RpAll.set n r h)
theorem RpAll.rep {vs : List V} {ds : List PD} (r : RpAll H vs ds) : ∀ n, RpAll H (List.replicate n vs).flatten (List.replicate n ds).flatten
  | 0 => .nil
  | n + 1 => by
    rw [List.replicate_succ, List.replicate_succ, List.flatten_cons, List.flatten_cons]
    exact r.append (RpAll.rep r n)
def unI : List PD → Option (List Int)
  | [] => some []
  | .int i :: r => (unI r).map (i :: ·)
  | _ => none
def unB : List PD → Option (List Bool)
  | [] => some []
  | .bool b :: r => (unB r).map (b :: ·)
  | _ => none
theorem unI_map : ∀ ns : List Int, unI (ns.map PyData.int) = some ns
  | [] => rfl
  | n :: ns => by rw [List.map_cons, unI, unI_map ns]; rfl
theorem unB_map : ∀ ns : List Bool, unB (ns.map PyData.bool) = some ns
  | [] => rfl
  | n :: ns => by rw [List.map_cons, unB, unB_map ns]; rfl
theorem unI_eq : ∀ {ds : List PD} {ns : List Int}, unI ds = some ns → ds = ns.map PyData.int
  | [], ns, h => by cases h; rfl
  | .int i :: r, ns, h => by
    unfold unI at h
    cases q : unI r with
    | none => rw [q] at h; cases h
    | some ms =>
      rw [q] at h
      cases h
      rw [unI_eq q]
      rfl
  | .none :: _, _, h => by cases h
  | .bool _ :: _, _, h => by cases h
  | .str _ :: _, _, h => by cases h
  | .list _ :: _, _, h => by cases h
  | .tuple _ :: _, _, h => by cases h
  | .dict _ :: _, _, h => by cases h
theorem unB_eq : ∀ {ds : List PD} {ns : List Bool}, unB ds = some ns → ds = ns.map PyData.bool
  | [], ns, h => by cases h; rfl
  | .bool i :: r, ns, h => by
    unfold unB at h
    cases q : unB r with
    | none => rw [q] at h; cases h
    | some ms =>
      rw [q] at h
      cases h
      rw [unB_eq q]
      rfl
  | .none :: _, _, h => by cases h
  | .int _ :: _, _, h => by cases h
  | .str _ :: _, _, h => by cases h
  | .list _ :: _, _, h => by cases h
  | .tuple _ :: _, _, h => by cases h
  | .dict _ :: _, _, h => by cases h
theorem RpAll.ints : ∀ {vs : List V} {ns : List Int}, RpAll H vs (ns.map PyData.int) → vs = ns.map V.int
  | _, [], .nil => rfl
  | _, n :: ns, .cons (.int _) r => by rw [RpAll.ints r]; rfl
theorem RpAll.bools : ∀ {vs : List V} {bs : List Bool}, RpAll H vs (bs.map PyData.bool) → vs = bs.map V.bl
  | _, [], .nil => rfl
  | _, n :: ns, .cons (.bl _) r => by rw [RpAll.bools r]; rfl
theorem RpAll.ofInts : ∀ (ns : List Int), RpAll H (ns.map V.int) (ns.map PyData.int)
  | [] => .nil
  | n :: ns => .cons (.int n) (RpAll.ofInts ns)
end
omit kk in
theorem zip_str {ks : List Str} {ds : List PD} {ps : List (PD × PD)} (h : ps = (ks.map PyData.str).zip ds) : ps = [] ∨ ∃ k d r, ps = (PyData.str k, d) :: r := by
  subst h
  cases ks with
  | nil => exact .inl rfl
  | cons k ks => cases ds with
    | nil => exact .inl rfl
    | cons d ds => exact .inr ⟨k, d, _, rfl⟩
mutual
def scrF : PD → Bool
  | .none | .bool _ | .int _ | .str _ => true
  | .list xs | .tuple xs => scrFs xs
  | .dict kvs => scrFk kvs
def scrFs : List PD → Bool
  | [] => true
  | x :: xs => scrF x && scrFs xs
def scrFk : List (PD × PD) → Bool
  | [] => true
  | (k, v) :: r => (match k with | .str _ => true | _ => false) && scrF v && scrFk r
end
theorem scrFk_zip : ∀ {ks : List Str} {ds : List PD}, ks.length = ds.length → scrFk ((ks.map PyData.str).zip ds) = scrFs ds
  | [], [], _ => rfl
  | k :: ks, d :: ds, h => by
    show (true && scrF d && scrFk ((ks.map PyData.str).zip ds)) = (scrF d && scrFs ds)
    rw [scrFk_zip (by simpa using h), Bool.true_and]
section
variable {X : Cx} {pins : List (Addr × Obj)} {σ : L2.St} {H : Hp} {s : Shared}
theorem rm_keys {P : Program} {w : World} {g : Heap} : ∀ {ks : List Str} {xs : List V} {vs : List (Key × Value)} {es : List DictEntry}, ks.length = xs.length → KV ((ks.map Sum.inr).zip xs) vs → Pairs (mixKind P w) es vs → Rms g (es.map (·.key)) (ks.map PyData.str) ∧ Vals xs (es.map (·.val))
  | [], [], _, _, _, r, p => by
    cases r
    cases p
    exact ⟨.nil, .nil⟩
  | k :: ks, x :: xs, _, _, hl, r, p => by
    have r : KV ((Sum.inr k, x) :: (ks.map Sum.inr).zip xs) _ := r
    cases r with
    | cons h t =>
      cases p with
      | cons p1 p2 p3 =>
        obtain ⟨h1, h2⟩ := h
        obtain ⟨q1, q2⟩ := rm_keys (g := g) (by simpa using hl) t p3
        rcases keyIs_shape p1 with ⟨i, u, e, _⟩ | ⟨y, u, e, e2⟩
        · rw [← h1] at e; exact nomatch e
        · rw [← h1] at e
          have e : k = y := Sum.inr.inj e
          subst e
          refine ⟨?_, ?_⟩
          · refine Rms.cons (ds := ks.map PyData.str) ?_ q1
            show Rm g _ (PyData.str k)
            have z := Rm.str (h := g) k u
            rw [← e2] at z
            exact z
          · refine Paired.cons ?_ q2
            show RelV x _
            have z : RelV x _ := h2
            rw [← p2] at z
            exact z
mutual
theorem Rp.rm (I : L2.Inv X pins σ H s) : ∀ {v : V} {d : PD}, Rp H v d → scrF d = true → ∀ {u : Value}, RelV v u → Rm s.heap u d
  | _, _, .non, _, _, r => by cases r; exact .non
  | _, _, .bl b, _, _, r => by cases r; exact .bl b
  | _, _, .int i, _, _, r => by obtain ⟨t, rfl⟩ := r; exact .int i t
  | _, _, .str x, _, _, r => by obtain ⟨t, rfl⟩ := r; exact .str x t
  | _, _, .lst h ra, f, _, r => by
    cases r
    obtain ⟨its, rv, ⟨o, n, ho, hc, _, hd⟩, _⟩ := I.list (show SqL X.K H _ _ from .inl (.inl h))
    exact .lst ho hc hd (RpAll.rm I ra (by simpa [scrF] using f) rv)
  | _, _, .tup h _ ra, f, _, r => by
    cases r
    obtain ⟨its, rv, ⟨o, ho, hc, n, hd⟩, _⟩ := I.tuple (show SqT X.K H _ _ from .inl (.inr ⟨_, h⟩))
    exact .tup ho hc hd (RpAll.rm I ra (by simpa [scrF] using f) rv)
  | _, _, .dct (ks := ks) (xs := xs) (ds := ds) h hl hp ra, f, _, r => by
    cases r
    subst hp
    have ld : xs.length = ds.length := ra.length
    obtain ⟨_, sm, vs, rel, o, es, ep, h1, h2, h3, _, h5, _⟩ := dk_of I.hok h
    obtain ⟨k1, k2⟩ := rm_keys (g := s.heap) hl rel h5
    refine .dct h1 h2.1 h3 sm ?_ ?_
    · rw [List.map_fst_zip (by simp; omega)]; exact k1
    · rw [List.map_snd_zip (by simp; omega)]
      refine RpAll.rm I ra ?_ k2
      rw [← scrFk_zip (ks := ks) (by omega)]
      simpa [scrF] using f
  | _, _, .scr _ _, f, _, _ => by simp [scrF, scrFk] at f
  | _, _, .dci _ _ _, f, _, _ => by simp [scrF, scrFk] at f
  | _, _, .exo _ _ _ _, f, _, _ => by simp [scrF, scrFk] at f
  | _, _, .«fun» _, f, _, _ => by simp [scrF, scrFk] at f
  | _, _, .hal _ _ _ _ _, f, _, _ => by simp [scrF, scrFk] at f
theorem RpAll.rm (I : L2.Inv X pins σ H s) : ∀ {vs : List V} {ds : List PD}, RpAll H vs ds → scrFs ds = true → ∀ {us : List Value}, Vals vs us → Rms s.heap us ds
  | _, _, .nil, _, _, r => by cases r; exact .nil
  | _, _, .cons h t, f, _, r => by
    simp only [scrFs, Bool.and_eq_true] at f
    cases r with
    | cons r1 r2 => exact .cons (Rp.rm I h f.1 r1) (RpAll.rm I t f.2 r2)
end
end
abbrev VE := List (Option PD)
def En (H : Hp) (σ : L2.St) (ρ : VE) : Prop := σ.length = ρ.length ∧ ∀ (i : Nat) (d : PD), ρ[i]? = some (some d) → ∃ v, σ[i]? = some (some v) ∧ Rp H v d
section
variable {H H' : Hp} {σ : L2.St} {ρ : VE}
theorem En.ex (h : En H σ ρ) (e : Ex H H') : En H' σ ρ := ⟨h.1, fun i d hi => let ⟨v, h1, h2⟩ := h.2 i d hi; ⟨v, h1, h2.ex e⟩⟩
theorem En.set (h : En H σ ρ) (j : Nat) {v : V} {d : PD} (hr : Rp H v d) : En H (σ.set j (some v)) (ρ.set j (some d)) := by
  refine ⟨by rw [List.length_set, List.length_set]; exact h.1, fun i q hi => ?_⟩
  by_cases c : j = i
  · subst c
    have hl : j < ρ.length := by
      have := (List.getElem?_eq_some_iff.mp hi).1
      simpa using this
    rw [List.getElem?_set_self hl] at hi
    cases hi
    exact ⟨v, List.getElem?_set_self (by rw [h.1]; exact hl), hr⟩
  · rw [List.getElem?_set_ne c] at hi
    rw [List.getElem?_set_ne c]
    exact h.2 i q hi
theorem En.clear (h : En H σ ρ) (j : Nat) (o : Option V) : En H (σ.set j o) (ρ.set j none) := by
  refine ⟨by rw [List.length_set, List.length_set]; exact h.1, fun i q hi => ?_⟩
  by_cases c : j = i
  · subst c
    have hl : j < ρ.length := by
      have := (List.getElem?_eq_some_iff.mp hi).1
      simpa using this
    rw [List.getElem?_set_self hl] at hi
    cases hi
  · rw [List.getElem?_set_ne c] at hi
    rw [List.getElem?_set_ne c]
    exact h.2 i q hi
end
def Ed (te : TE) (ρ : VE) (d : PD) : Prop := ∀ S σ H, Al S H → En (hid S H) σ ρ → ∀ Q : VK, (∀ v H2, Ex H H2 → Rp (hid S H2) v d → Q v H2) → te σ H Q
def Et (tt : TT) (ρ : VE) (b : Bool) : Prop := ∀ S σ H, Al S H → En (hid S H) σ ρ → ∀ Q : Bool → Hp → Prop, (∀ H2, Ex H H2 → Q b H2) → tt σ H Q
def Ea (ta : TA) (ρ : VE) (ds : List PD) : Prop := ∀ S σ H, Al S H → En (hid S H) σ ρ → ∀ Q : List V → Hp → Prop, (∀ vs H2, Ex H H2 → RpAll (hid S H2) vs ds → Q vs H2) → ta σ H Q
def Ro (r : R2) (x y z : PD) : Prop := ∀ S H vx vy, Al S H → Rp (hid S H) vx x → Rp (hid S H) vy y → ∀ Q : VK, (∀ v H2, Ex H H2 → Rp (hid S H2) v z → Q v H2) → r vx vy H Q
def Ru (r : V → Hp → VK → Prop) (x z : PD) : Prop := ∀ S H vx, Al S H → Rp (hid S H) vx x → ∀ Q : VK, (∀ v H2, Ex H H2 → Rp (hid S H2) v z → Q v H2) → r vx H Q
def Rc (r : List V → Hp → VK → Prop) (xs : List PD) (z : PD) : Prop := ∀ S H vs, Al S H → RpAll (hid S H) vs xs → ∀ Q : VK, (∀ v H2, Ex H H2 → Rp (hid S H2) v z → Q v H2) → r vs H Q
abbrev XE := VE → Option PD
abbrev XT := VE → Option Bool
abbrev XA := VE → Option (List PD)
def SE (te : TE) (x : XE) : Prop := ∀ ρ d, x ρ = some d → Ed te ρ d
def ST (tt : TT) (x : XT) : Prop := ∀ ρ b, x ρ = some b → Et tt ρ b
def SA (ta : TA) (x : XA) : Prop := ∀ ρ ds, x ρ = some ds → Ea ta ρ ds
def SO (r : R2) (f : PD → PD → Option PD) : Prop := ∀ x y z, f x y = some z → Ro r x y z
def SU (r : V → Hp → VK → Prop) (f : PD → Option PD) : Prop := ∀ x z, f x = some z → Ru r x z
def SC (r : List V → Hp → VK → Prop) (f : List PD → Option PD) : Prop := ∀ xs z, f xs = some z → Rc r xs z
theorem bind_some {α β : Type} {a : Option α} {f : α → Option β} {z : β} (h : a.bind f = some z) : ∃ x, a = some x ∧ f x = some z := by
  cases a with
  | none => cases h
  | some x => exact ⟨x, rfl, h⟩
def xVar (i : Nat) : XE := fun ρ => (ρ[i]?).bind id
def xC (d : PD) : XE := fun _ => some d
def xOp (f : PD → PD → Option PD) (a b : XE) : XE := fun ρ => (a ρ).bind fun x => (b ρ).bind fun y => f x y
def xUn (f : PD → Option PD) (a : XE) : XE := fun ρ => (a ρ).bind f
def xNil : XA := fun _ => some []
def xCons (a : XE) (as : XA) : XA := fun ρ => (a ρ).bind fun x => (as ρ).bind fun xs => some (x :: xs)
def xTup (as : XA) : XE := fun ρ => (as ρ).bind fun ds => if ds.length ≤ 100000 then some (.tuple ds) else none
def xLst (as : XA) : XE := fun ρ => (as ρ).bind fun ds => if ds.length ≤ 100000 then some (.list ds) else none
def xCB (f : List PD → Option PD) (as : XA) : XE := fun ρ => (as ρ).bind f
def isB : PD → Option Bool
  | .bool b => some b
  | _ => none
theorem isB_eq {d : PD} {b : Bool} (h : isB d = some b) : d = .bool b := by
  cases d with
  | bool c => cases h; rfl
  | _ => cases h
def xB (a : XE) : XT := fun ρ => (a ρ).bind isB
def xTAnd (a b : XT) : XT := fun ρ => (a ρ).bind fun c => if c = true then b ρ else some false
def xTOr (a b : XT) : XT := fun ρ => (a ρ).bind fun c => if c = true then some true else b ρ
def xTNot (a : XT) : XT := fun ρ => (a ρ).bind fun c => some (!c)
def xYes : XT := fun _ => some true
def xAnd (a b : XE) : XE := fun ρ => ((a ρ).bind isB).bind fun c => if c = true then b ρ else some (.bool false)
def xOr (a b : XE) : XE := fun ρ => ((a ρ).bind isB).bind fun c => if c = true then some (.bool true) else b ρ
def xNot (a : XE) : XE := fun ρ => ((a ρ).bind isB).bind fun c => some (.bool (!c))
def xIf (c : XT) (a b : XE) : XE := fun ρ => (c ρ).bind fun k => if k = true then a ρ else b ρ
def xChain (f g : PD → PD → Option PD) (a b c : XE) : XE := fun ρ => (a ρ).bind fun x => (b ρ).bind fun y => ((f x y).bind isB).bind fun k => if k = true then (c ρ).bind fun z => g y z else some (.bool false)
section
variable {ta tb tc te : TE} {t u : TT} {ts : TA} {a b c x : XE} {p q : XT} {as : XA} {r r' : R2} {f g : PD → PD → Option PD}
theorem se_var {i : Nat} : SE (tVar i) (xVar i) := fun ρ d h S σ H _ en Q q => by
  obtain ⟨o, h1, h2⟩ := bind_some h
  cases h2
  obtain ⟨v, e, rv⟩ := en.2 i d h1
  exact ⟨v, e, q v H (Ex.refl H) rv⟩
theorem se_int {i : Int} : SE (tC (.int i)) (xC (.int i)) := fun ρ d h S σ H _ _ Q q => by cases h; exact q _ H (Ex.refl H) (.int i)
theorem se_bl {b : Bool} : SE (tC (.bl b)) (xC (.bool b)) := fun ρ d h S σ H _ _ Q q => by cases h; exact q _ H (Ex.refl H) (.bl b)
theorem se_non : SE (tC .non) (xC .none) := fun ρ d h S σ H _ _ Q q => by cases h; exact q _ H (Ex.refl H) .non
theorem se_str {s : Str} : SE (tC (.str s)) (xC (.str s)) := fun ρ d h S σ H _ _ Q q => by cases h; exact q _ H (Ex.refl H) (.str s)
theorem se_d0 : SE tDNewK (xC (.dict [])) := fun ρ d h S σ H al _ Q q => by
  cases h
  intro p hp
  exact q _ _ (Ex.new hp) (.dct (ks := []) (xs := []) (ds := []) (new_ok al hp) rfl rfl .nil)
theorem se_op (hr : SO r f) (ha : SE ta a) (hb : SE tb b) : SE (tOp r ta tb) (xOp f a b) := fun ρ d h S σ H al en Q q => by
  obtain ⟨x, h1, h⟩ := bind_some h
  obtain ⟨y, h2, h⟩ := bind_some h
  exact ha ρ x h1 S σ H al en _ fun vx H1 e1 rx => hb ρ y h2 S σ H1 (al.ex e1) (en.ex (hid_ex e1)) _ fun vy H2 e2 ry =>
    hr x y d h S H2 vx vy ((al.ex e1).ex e2) (rx.ex (hid_ex e2)) ry Q fun v H3 e3 rv => q v H3 ((e1.trans e2).trans e3) rv
theorem se_un {r : V → Hp → VK → Prop} {f : PD → Option PD} (hr : SU r f) (ha : SE ta a) : SE (tUn r ta) (xUn f a) := fun ρ d h S σ H al en Q q => by
  obtain ⟨x, h1, h⟩ := bind_some h
  exact ha ρ x h1 S σ H al en _ fun vx H1 e1 rx => hr x d h S H1 vx (al.ex e1) rx Q fun v H3 e3 rv => q v H3 (e1.trans e3) rv
theorem sa_nil : SA tNil xNil := fun ρ ds h S σ H _ _ Q q => by cases h; exact q [] H (Ex.refl H) .nil
theorem sa_cons (ha : SE ta a) (hs : SA ts as) : SA (tCons ta ts) (xCons a as) := fun ρ ds h S σ H al en Q q => by
  obtain ⟨x, h1, h⟩ := bind_some h
  obtain ⟨xs, h2, h⟩ := bind_some h
  cases h
  exact ha ρ x h1 S σ H al en _ fun v H1 e1 rv => hs ρ xs h2 S σ H1 (al.ex e1) (en.ex (hid_ex e1)) _ fun vs H2 e2 rs => q (v :: vs) H2 (e1.trans e2) (.cons (rv.ex (hid_ex e2)) rs)
theorem se_tup (hs : SA ts as) : SE (tTupF ts) (xTup as) := fun ρ d h S σ H al en Q q => by
  obtain ⟨ds, h1, h⟩ := bind_some h
  by_cases hl : ds.length ≤ 100000
  · rw [if_pos hl] at h
    cases h
    refine hs ρ ds h1 S σ H al en _ fun vs H1 e1 ra => ⟨by rw [ra.length]; exact Evl.sz_of hl, fun p o hp pl => q _ _ (e1.trans (Ex.new hp)) (.tup (new_ok (al.ex e1) hp) pl (ra.ex (hid_ex (Ex.new hp))))⟩
  · rw [if_neg hl] at h; cases h
theorem se_cb {r : List V → Hp → VK → Prop} {f : List PD → Option PD} (hr : SC r f) (hs : SA ts as) : SE (tCB r ts) (xCB f as) := fun ρ d h S σ H al en Q q => by
  obtain ⟨ds, h1, h⟩ := bind_some h
  exact hs ρ ds h1 S σ H al en _ fun vs H1 e1 rv => hr ds d h S H1 vs (al.ex e1) rv Q fun v H2 e2 r2 => q v H2 (e1.trans e2) r2
theorem st_B (ha : SE ta a) : ST (tB ta) (xB a) := fun ρ b h S σ H al en Q q => by
  obtain ⟨x, h1, h⟩ := bind_some h
  have e := isB_eq h
  subst e
  exact ha ρ _ h1 S σ H al en _ fun v H1 e1 rv => by cases rv; exact ⟨b, rfl, q H1 e1⟩
theorem st_test (ha : SE ta a) : ST (tTest ta) (xB a) := fun ρ b h S σ H al en Q q => by
  obtain ⟨x, h1, h⟩ := bind_some h
  have e := isB_eq h
  subst e
  exact ha ρ _ h1 S σ H al en _ fun v H1 e1 rv => by cases rv; exact ⟨b, rfl, q H1 e1⟩
theorem st_yes : ST tYes xYes := fun ρ b h S σ H al en Q q => by cases h; exact q H (Ex.refl H)
theorem st_not (ht : ST t p) : ST (tNot t) (xTNot p) := fun ρ b h S σ H al en Q q => by
  obtain ⟨c, h1, h⟩ := bind_some h
  cases h
  exact ht ρ c h1 S σ H al en _ fun H1 e1 => q H1 e1
theorem st_and (ht : ST t p) (hu : ST u q) : ST (tAnd t u) (xTAnd p q) := fun ρ b h S σ H al en Q k => by
  obtain ⟨c, h1, h⟩ := bind_some h
  refine ht ρ c h1 S σ H al en _ fun H1 e1 => ?_
  cases c with
  | true => exact hu ρ b h S σ H1 (al.ex e1) (en.ex (hid_ex e1)) Q fun H2 e2 => k H2 (e1.trans e2)
  | false => cases h; exact k H1 e1
theorem st_or (ht : ST t p) (hu : ST u q) : ST (tOr t u) (xTOr p q) := fun ρ b h S σ H al en Q k => by
  obtain ⟨c, h1, h⟩ := bind_some h
  refine ht ρ c h1 S σ H al en _ fun H1 e1 => ?_
  cases c with
  | true => cases h; exact k H1 e1
  | false => exact hu ρ b h S σ H1 (al.ex e1) (en.ex (hid_ex e1)) Q fun H2 e2 => k H2 (e1.trans e2)
theorem se_and (ha : SE ta a) (hb : SE tb b) : SE (tAndV ta tb) (xAnd a b) := fun ρ d h S σ H al en Q q => by
  obtain ⟨c, h1, h⟩ := bind_some h
  obtain ⟨x, h0, h1⟩ := bind_some h1
  have e := isB_eq h1
  subst e
  refine ha ρ _ h0 S σ H al en _ fun v H1 e1 rv => ?_
  cases rv
  refine ⟨c, rfl, ?_⟩
  cases c with
  | true => exact hb ρ d h S σ H1 (al.ex e1) (en.ex (hid_ex e1)) Q fun v H2 e2 r2 => q v H2 (e1.trans e2) r2
  | false => cases h; exact q _ H1 e1 (.bl false)
theorem se_or (ha : SE ta a) (hb : SE tb b) : SE (tOrV ta tb) (xOr a b) := fun ρ d h S σ H al en Q q => by
  obtain ⟨c, h1, h⟩ := bind_some h
  obtain ⟨x, h0, h1⟩ := bind_some h1
  have e := isB_eq h1
  subst e
  refine ha ρ _ h0 S σ H al en _ fun v H1 e1 rv => ?_
  cases rv
  refine ⟨c, rfl, ?_⟩
  cases c with
  | true => cases h; exact q _ H1 e1 (.bl true)
  | false => exact hb ρ d h S σ H1 (al.ex e1) (en.ex (hid_ex e1)) Q fun v H2 e2 r2 => q v H2 (e1.trans e2) r2
theorem se_not (ha : SE ta a) : SE (tNotV ta) (xNot a) := fun ρ d h S σ H al en Q q => by
  obtain ⟨c, h1, h⟩ := bind_some h
  obtain ⟨x, h0, h1⟩ := bind_some h1
  have e := isB_eq h1
  subst e
  cases h
  refine ha ρ _ h0 S σ H al en _ fun v H1 e1 rv => ?_
  cases rv
  exact ⟨c, rfl, q _ H1 e1 (.bl _)⟩
theorem se_if (ht : ST t p) (ha : SE ta a) (hb : SE tb b) : SE (tIf t ta tb) (xIf p a b) := fun ρ d h S σ H al en Q q => by
  obtain ⟨c, h1, h⟩ := bind_some h
  refine ht ρ c h1 S σ H al en _ fun H1 e1 => ?_
  cases c with
  | true => exact ha ρ d h S σ H1 (al.ex e1) (en.ex (hid_ex e1)) Q fun v H2 e2 r2 => q v H2 (e1.trans e2) r2
  | false => exact hb ρ d h S σ H1 (al.ex e1) (en.ex (hid_ex e1)) Q fun v H2 e2 r2 => q v H2 (e1.trans e2) r2
theorem se_chain (hr : SO r f) (hr' : SO r' g) (ha : SE ta a) (hb : SE tb b) (hc : SE tc c) : SE (tChain r r' ta tb tc) (xChain f g a b c) := fun ρ d h S σ H al en Q q => by
  obtain ⟨x, h1, h⟩ := bind_some h
  obtain ⟨y, h2, h⟩ := bind_some h
  obtain ⟨k, h3, h⟩ := bind_some h
  obtain ⟨w, h3, h4⟩ := bind_some h3
  have e := isB_eq h4
  subst e
  refine ha ρ x h1 S σ H al en _ fun vx H1 e1 rx => hb ρ y h2 S σ H1 (al.ex e1) (en.ex (hid_ex e1)) _ fun vy H2 e2 ry => hr x y _ h3 S H2 vx vy ((al.ex e1).ex e2) (rx.ex (hid_ex e2)) ry _ fun v H3 e3 rv => ?_
  cases rv
  refine ⟨k, rfl, ?_⟩
  have e13 := (e1.trans e2).trans e3
  cases k with
  | true =>
    obtain ⟨z, h5, h⟩ := bind_some h
    refine iteT (hc ρ z h5 S σ H3 (al.ex e13) (en.ex (hid_ex e13)) _ fun vz H4 e4 rz => ?_)
    exact hr' y z d h S H4 vy vz ((al.ex e13).ex e4) (ry.ex ((hid_ex e3).trans (hid_ex e4))) rz Q fun w H5 e5 rw' => q w H5 ((e13.trans e4).trans e5) rw'
  | false => cases h; exact iteF (q _ H3 e13 (.bl false))
end
end Uv

namespace Uv
open PySem PySem.Spec PyProof.Rows L2
open Evl (Ex)
variable [kk : KK]
theorem OpR.or {X : Cx} {f : Value → Value → Sem Value} {r r' : R2} (h : OpR X f r) (h' : OpR X f r') : OpR X f (fun x y H Q => r x y H Q ∨ r' x y H Q) := fun pins s σ H x y v u Q I rx ry q =>
  q.elim (h pins s σ H x y v u Q I rx ry) (h' pins s σ H x y v u Q I rx ry)
theorem CallR.or {X : Cx} {f : Value} {r r' : List V → Hp → VK → Prop} (h : CallR X f r) (h' : CallR X f r') : CallR X f (fun xs H Q => r xs H Q ∨ r' xs H Q) := fun pins s σ H xs us Q I rx q =>
  q.elim (h pins s σ H xs us Q I rx) (h' pins s σ H xs us Q I rx)
theorem SlR.or {X : Cx} {r r' : V → Option Int → Option Int → Hp → VK → Prop} (h : SlR X r) (h' : SlR X r') : SlR X (fun x lo hi H Q => r x lo hi H Q ∨ r' x lo hi H Q) := fun pins s σ H x v vl vu lo hi sl Q I rx hs pl pu q =>
  q.elim (h pins s σ H x v vl vu lo hi sl Q I rx hs pl pu) (h' pins s σ H x v vl vu lo hi sl Q I rx hs pl pu)
theorem PI.or {X : Cx} {tg e : Expr} {t u : TI} (h : PI X tg e t) (h' : PI X tg e u) : PI X tg e (fun σ H Q => t σ H Q ∨ u σ H Q) := ⟨fun pins s σ H Q I q => q.elim (h.run pins s σ H Q I) (h'.run pins s σ H Q I)⟩
abbrev oSub : R2 := rI0 fun i j => .int (i - j)
abbrev oDivW : R2 := rI CDivW fun i j => .int (i / j)
abbrev oMod : R2 := rI (fun _ j => 0 < j) fun i j => .int (i % j)
abbrev oPow : R2 := rI CPow fun i j => .int (i ^ j.toNat)
abbrev oLt : R2 := rI0 fun i j => .bl (decide (i < j))
abbrev oLe : R2 := rI0 fun i j => .bl (decide (i ≤ j))
abbrev oGt : R2 := rI0 fun i j => .bl (decide (j < i))
abbrev oGe : R2 := rI0 fun i j => .bl (decide (j ≤ i))
abbrev oIsN : R2 := fun x y H Q => y = .non ∧ Q (.bl (decide (x = .non))) H
abbrev oNotN : R2 := fun x y H Q => y = .non ∧ Q (.bl (!decide (x = .non))) H
abbrev oNeg : V → Hp → VK → Prop := rU fun i => .int (-i)
abbrev rAbsQ : List V → Hp → VK → Prop := fun xs H Q => ∃ i, xs = [.int i] ∧ Q (.int (if i < 0 then -i else i)) H
abbrev rIntQ : List V → Hp → VK → Prop := fun xs H Q => (∃ i, xs = [.int i] ∧ Q (.int i) H) ∨ ∃ k, xs = [.bl k] ∧ Q (.int (if k then 1 else 0)) H
section
def addP : PD → PD → Option PD
  | .int i, .int j => some (.int (i + j))
  | .list xs, .list ys => if xs.length + ys.length ≤ 100000 then some (.list (xs ++ ys)) else none
  | .tuple xs, .tuple ys => if xs.length + ys.length ≤ 100000 then some (.tuple (xs ++ ys)) else none
  | _, _ => none
def rAddU (K : PySem.W.Frag) : R2 := fun x y H Q => rI0 (fun i j => .int (i + j)) x y H Q ∨ (rCat x y H Q ∨ rCatF K x y H Q)
theorem op_addU {X : Cx} : OpR X (binaryOp .Add) (rAddU X.K) := OpR.or op_add (OpR.or op_cat op_catF)
theorem so_add : SO (rAddU K) addP := fun x y z h S H vx vy al rx ry Q q => by
  cases rx with
  | int i =>
    cases ry with
    | int j =>
      cases h
      exact .inl ⟨i, j, rfl, rfl, q _ H (Ex.refl H) (.int _)⟩
    | _ => cases h
  | @lst a xs ds ha ra =>
    cases ry with
    | @lst b ys es hb rb =>
      have h : (if ds.length + es.length ≤ 100000 then some (PyData.list (ds ++ es)) else none) = some z := h
      by_cases c : ds.length + es.length ≤ 100000
      · rw [if_pos c] at h
        cases h
        refine .inr (.inl ⟨a, b, xs, ys, rfl, rfl, hid_le _ _ ha, hid_le _ _ hb, by rw [ra.length, rb.length]; exact Evl.sz_of c, fun p hp => q _ _ (Ex.new hp) (.lst (new_ok al hp) ((ra.append rb).ex (hid_ex (Ex.new hp))))⟩)
      · rw [if_neg c] at h; cases h
    | _ => cases h
  | @tup a o xs ds ha pa ra =>
    cases ry with
    | @tup b o' ys es hb pb rb =>
      have h : (if ds.length + es.length ≤ 100000 then some (PyData.tuple (ds ++ es)) else none) = some z := h
      by_cases c : ds.length + es.length ≤ 100000
      · rw [if_pos c] at h
        cases h
        refine .inr (.inr ⟨a, b, xs, ys, rfl, rfl, .inl (.inr ⟨_, hid_le _ _ ha⟩), .inl (.inr ⟨_, hid_le _ _ hb⟩), by rw [ra.length, rb.length]; exact Evl.sz_of c, fun e => ?_, fun _ e => ?_, fun _ _ p o hp pl => q _ _ (Ex.new hp) (.tup (new_ok al hp) pl ((ra.append rb).ex (hid_ex (Ex.new hp))))⟩)
        · subst e
          cases ra
          exact q _ H (Ex.refl H) (.tup hb pb rb)
        · subst e
          cases rb
          exact q _ H (Ex.refl H) (by rw [List.append_nil]; exact .tup ha pa ra)
      · rw [if_neg c] at h; cases h
    | _ => cases h
  | _ => cases h
def intF (f : Int → Int → Option PD) : PD → PD → Option PD
  | .int i, .int j => f i j
  | _, _ => none
theorem intF_eq {f : Int → Int → Option PD} {x y z : PD} (h : intF f x y = some z) : ∃ i j, x = .int i ∧ y = .int j ∧ f i j = some z := by
  cases x with
  | int i =>
    cases y with
    | int j => exact ⟨i, j, rfl, rfl, h⟩
    | _ => cases h
  | _ => cases h
theorem so_rI {C : Int → Int → Prop} {g : Int → Int → Int} {f : Int → Int → Option PD} (hf : ∀ i j z, f i j = some z → C i j ∧ z = .int (g i j)) : SO (rI C fun i j => .int (g i j)) (intF f) := fun x y z h S H vx vy al rx ry Q q => by
  obtain ⟨i, j, rfl, rfl, h⟩ := intF_eq h
  obtain ⟨h1, rfl⟩ := hf i j z h
  cases rx; cases ry
  exact ⟨i, j, rfl, rfl, h1, q _ H (Ex.refl H) (.int _)⟩
theorem so_rI0 {g : Int → Int → Int} : SO (rI0 fun i j => .int (g i j)) (intF fun i j => some (.int (g i j))) := fun x y z h S H vx vy al rx ry Q q => by
  obtain ⟨i, j, rfl, rfl, h⟩ := intF_eq h
  cases h
  cases rx; cases ry
  exact ⟨i, j, rfl, rfl, q _ H (Ex.refl H) (.int _)⟩
theorem so_rIb {g : Int → Int → Bool} : SO (rI0 fun i j => .bl (g i j)) (intF fun i j => some (.bool (g i j))) := fun x y z h S H vx vy al rx ry Q q => by
  obtain ⟨i, j, rfl, rfl, h⟩ := intF_eq h
  cases h
  cases rx; cases ry
  exact ⟨i, j, rfl, rfl, q _ H (Ex.refl H) (.bl _)⟩
def subP : PD → PD → Option PD := intF fun i j => some (.int (i - j))
def divP : PD → PD → Option PD := intF fun i j => if 0 < j ∧ j < 2 ^ 64 then some (.int (i / j)) else none
def modP : PD → PD → Option PD := intF fun i j => if 0 < j then some (.int (i % j)) else none
def powP : PD → PD → Option PD := intF fun i j => if 0 ≤ j ∧ j ≤ 1000 ∧ -(2 ^ 63) < i ∧ i < 2 ^ 63 then some (.int (i ^ j.toNat)) else none
def ltP : PD → PD → Option PD := intF fun i j => some (.bool (decide (i < j)))
def leP : PD → PD → Option PD := intF fun i j => some (.bool (decide (i ≤ j)))
def geP : PD → PD → Option PD := intF fun i j => some (.bool (decide (j ≤ i)))
theorem so_sub : SO oSub subP := so_rI0
theorem so_lt : SO oLt ltP := so_rIb
theorem so_le : SO oLe leP := so_rIb
theorem so_ge : SO oGe geP := so_rIb
theorem so_div : SO oDivW divP := so_rI fun i j z h => by
  by_cases c : 0 < j ∧ j < 2 ^ 64
  · rw [if_pos c] at h
    cases h
    exact ⟨⟨c.1, Nat.lt_of_lt_of_le (PySem.Flt.log2_lt_of (k := 64) (by decide) (by omega)) (by decide)⟩, rfl⟩
  · rw [if_neg c] at h; cases h
theorem so_mod : SO oMod modP := so_rI fun i j z h => by
  by_cases c : 0 < j
  · rw [if_pos c] at h
    cases h
    exact ⟨c, rfl⟩
  · rw [if_neg c] at h; cases h
theorem so_pow : SO oPow powP := so_rI fun i j z h => by
  by_cases c : 0 ≤ j ∧ j ≤ 1000 ∧ -(2 ^ 63) < i ∧ i < 2 ^ 63
  · rw [if_pos c] at h
    cases h
    exact ⟨⟨c.1, by omega, by omega⟩, rfl⟩
  · rw [if_neg c] at h; cases h
def mulP : PD → PD → Option PD
  | .int i, .int j => if (-(2 ^ 64) < i ∧ i < 2 ^ 64) ∨ (-(2 ^ 64) < j ∧ j < 2 ^ 64) then some (.int (i * j)) else none
  | .list xs, .int j => if 0 ≤ j ∧ j ≤ 100000 ∧ xs.length * j.toNat ≤ 100000 then some (.list (List.replicate j.toNat xs).flatten) else none
  | _, _ => none
def rMulU : R2 := fun x y H Q => rI CMul (fun i j => .int (i * j)) x y H Q ∨ rRep x y H Q
theorem op_mulU {X : Cx} : OpR X (binaryOp .Mult) rMulU := OpR.or op_mul op_rep
theorem so_mul : SO rMulU mulP := fun x y z h S H vx vy al rx ry Q q => by
  cases rx with
  | int i =>
    cases ry with
    | int j =>
      have h : (if (-(2 ^ 64) < i ∧ i < 2 ^ 64) ∨ (-(2 ^ 64) < j ∧ j < 2 ^ 64) then some (PyData.int (i * j)) else none) = some z := h
      by_cases c : (-(2 ^ 64) < i ∧ i < 2 ^ 64) ∨ (-(2 ^ 64) < j ∧ j < 2 ^ 64)
      · rw [if_pos c] at h
        cases h
        exact .inl ⟨i, j, rfl, rfl, c, q _ H (Ex.refl H) (.int _)⟩
      · rw [if_neg c] at h; cases h
    | _ => cases h
  | @lst a xs ds ha ra =>
    cases ry with
    | int j =>
      have h : (if 0 ≤ j ∧ j ≤ 100000 ∧ ds.length * j.toNat ≤ 100000 then some (PyData.list (List.replicate j.toNat ds).flatten) else none) = some z := h
      by_cases c : 0 ≤ j ∧ j ≤ 100000 ∧ ds.length * j.toNat ≤ 100000
      · rw [if_pos c] at h
        cases h
        refine .inr ⟨_, _, _, rfl, rfl, hid_le _ _ ha, by omega, by omega, ?_, fun p hp => q _ _ (Ex.new hp) (.lst (new_ok al hp) ((ra.rep j.toNat).ex (hid_ex (Ex.new hp))))⟩
        rw [ra.length]
        exact Evl.sz_of c.2.2
      · rw [if_neg c] at h; cases h
    | _ => cases h
  | _ => cases h
def negP : PD → Option PD
  | .int i => some (.int (-i))
  | _ => none
theorem su_neg : SU oNeg negP := fun x z h S H vx al rx Q q => by
  cases rx with
  | int i => cases h; exact ⟨i, rfl, q _ H (Ex.refl H) (.int _)⟩
  | _ => cases h
def eqE : PD → PD → Option PD
  | .tuple ds, .tuple [] => some (.bool ds.isEmpty)
  | .dict [], .str _ => some (.bool false)
  | .dict ((.str _, _) :: _), .str _ => some (.bool false)
  | _, _ => none
def eqP (x y : PD) : Option PD := if SeqAt.shaped x = true ∧ SeqAt.shaped y = true then some (.bool (PyData.eqv x y)) else eqE x y
def rEqX (K : PySem.W.Frag) : R2 := fun x y H Q => rEqD K x y H Q ∨ (∃ a b xs, x = .ref a ∧ y = .ref b ∧ SqT K H a xs ∧ SqT K H b [] ∧ Q (.bl xs.isEmpty) H) ∨ ∃ a kvs t, x = .ref a ∧ y = .str t ∧ H a = some (.dK kvs) ∧ Q (.bl false) H
theorem op_eqX {X : Cx} (hu : X.A.units + 64 < cLine) : OpR X (compareOp .Eq) (rEqX X.K) := by
  intro pins s σ H x y v u Q I rx ry h
  rcases h with h | ⟨a, b, xs, rfl, rfl, ha, hb, q⟩ | ⟨a, kvs, t, rfl, rfl, ha, q⟩
  · exact op_eqD hu pins s σ H x y v u Q I rx ry h
  · cases rx
    cases ry
    obtain ⟨its, rv, ht, _⟩ := I.tuple ha
    obtain ⟨its2, rv2, ht2, _⟩ := I.tuple hb
    cases rv2
    refine SeqAt.RcAt.tuples (e := fun _ => true) ht ht2 (by omega) (fun j _ h2 => absurd h2 (by simp)) X.prog X.w X.xe _ ⟨.bl _, H, I, ?_, q⟩
    show Value.bool _ = Value.bool _
    cases rv with
    | nil => rfl
    | cons h t => simp
  · cases rx
    obtain ⟨tk, rfl⟩ := ry
    obtain ⟨_, _, vs, _, o, es, ep, h1, h2, h3, _⟩ := dk_of I.hok ha
    obtain ⟨cls, dd, data, sl⟩ := o
    obtain ⟨c1, c2, c3⟩ := h2
    simp only at c1 h3
    subst c1 h3
    exact dct_str t tk h1 (by omega) X.prog X.w X.xe _ ⟨.bl false, H, I, rfl, q⟩
def neP (x y : PD) : Option PD := if SeqAt.shaped x = true ∧ SeqAt.shaped y = true then some (.bool (!PyData.eqv x y)) else none
theorem nodict {d : PD} (h : SeqAt.shaped d = true) : d.hasDict = false := by
  unfold SeqAt.shaped at h
  rw [Bool.and_eq_true] at h
  exact PyData.hasDict_of_canLay d h.1
theorem so_eq : SO (rEqX K) eqP := fun x y z h S H vx vy al rx ry Q q => by
  unfold eqP at h
  by_cases c : SeqAt.shaped x = true ∧ SeqAt.shaped y = true
  · rw [if_pos c] at h
    cases h
    exact .inl ⟨x, y, (rx.ex hid_le).dp (nodict c.1), (ry.ex hid_le).dp (nodict c.2), c.1, c.2, q _ H (Ex.refl H) (.bl _)⟩
  · rw [if_neg c] at h
    unfold eqE at h
    split at h
    · cases h
      cases rx with
      | @tup a o xs _ hx _ ra =>
        cases ry with
        | @tup b o2 ys ds2 hy _ rb =>
          cases rb
          have qq := q (.bl xs.isEmpty) H (Ex.refl H)
          refine .inr (.inl ⟨a, b, xs, rfl, rfl, .inl (.inr ⟨_, hid_le _ _ hx⟩), .inl (.inr ⟨_, hid_le _ _ hy⟩), qq ?_⟩)
          cases ra with
          | nil => exact .bl _
          | cons _ _ => exact .bl _
    · cases h
      cases ry
      cases rx with
      | dct hx _ _ _ => exact .inr (.inr ⟨_, _, _, rfl, rfl, hid_le _ _ hx, q _ H (Ex.refl H) (.bl _)⟩)
    · cases h
      cases ry
      cases rx with
      | dct hx _ _ _ => exact .inr (.inr ⟨_, _, _, rfl, rfl, hid_le _ _ hx, q _ H (Ex.refl H) (.bl _)⟩)
    · cases h
theorem so_ne : SO (rNeD K) neP := fun x y z h S H vx vy al rx ry Q q => by
  unfold neP at h
  by_cases c : SeqAt.shaped x = true ∧ SeqAt.shaped y = true
  · rw [if_pos c] at h
    cases h
    exact ⟨x, y, (rx.ex hid_le).dp (nodict c.1), (ry.ex hid_le).dp (nodict c.2), c.1, c.2, q _ H (Ex.refl H) (.bl _)⟩
  · rw [if_neg c] at h; cases h
def isNone : PD → Bool
  | .none => true
  | _ => false
theorem isNone_of {H : Hp} {v : V} {d : PD} (r : Rp H v d) : decide (v = .non) = isNone d := by cases r <;> rfl
def rInTu (K : PySem.W.Frag) : R2 := fun x y H Q => ∃ d ds, Dp K H x d ∧ Dp K H y (.tuple ds) ∧ SeqAt.shaped d = true ∧ SeqAt.shaped (.tuple ds) = true ∧ Q (.bl (ds.any fun z => PyData.eqv z d)) H
theorem op_inTu {X : Cx} (hu : X.A.units + 65 < cLine) : OpR X (compareOp .In) (rInTu X.K) := by
  intro pins s σ H x y v u Q I rx ry h
  obtain ⟨d, ds, h1, h2, s1, s2, q⟩ := h
  obtain ⟨as, r1⟩ := Dp.reads I d x v h1 rx
  obtain ⟨bs, r2⟩ := Dp.reads I (.tuple ds) y u h2 ry
  exact SeqAt.in_tuple_reads r2 r1 (SeqAt.canLay_of_shaped s2) (SeqAt.canLay_of_shaped s1) (room_in_shaped s1 hu) ⟨.bl _, H, I, rfl, q⟩
def rInU (K : PySem.W.Frag) : R2 := fun x y H Q => rInD K x y H Q ∨ rInTu K x y H Q
theorem op_inU {X : Cx} (hu : X.A.units + 65 < cLine) : OpR X (compareOp .In) (rInU X.K) := OpR.or (op_inD hu) (op_inTu hu)
def inP (x y : PD) : Option PD := if SeqAt.shaped x = true ∧ SeqAt.shaped y = true then match y with
  | .list ds => some (.bool (ds.any fun z => PyData.eqv z x))
  | .tuple ds => some (.bool (ds.any fun z => PyData.eqv z x))
  | _ => none else none
theorem so_in : SO (rInU K) inP := fun x y z h S H vx vy al rx ry Q q => by
  unfold inP at h
  by_cases c : SeqAt.shaped x = true ∧ SeqAt.shaped y = true
  · rw [if_pos c] at h
    cases y with
    | list ds =>
      cases h
      exact .inl ⟨x, ds, (rx.ex hid_le).dp (nodict c.1), (ry.ex hid_le).dp (nodict c.2), c.1, c.2, q _ H (Ex.refl H) (.bl _)⟩
    | tuple ds =>
      cases h
      exact .inr ⟨x, ds, (rx.ex hid_le).dp (nodict c.1), (ry.ex hid_le).dp (nodict c.2), c.1, c.2, q _ H (Ex.refl H) (.bl _)⟩
    | _ => cases h
  · rw [if_neg c] at h; cases h
def ixP : PD → PD → Option PD
  | .tuple ds, .int i => atI ds i
  | .list ds, .int i => atI ds i
  | .dict [(.none, .list ds)], .int i => atI ds i
  | _, _ => none
theorem so_ix : SO (rIx K) ixP := fun x y z h S H vx vy al rx ry Q q => by
  cases rx with
  | lst ha ra =>
    cases ry with
    | int i =>
      obtain ⟨v, h1, h2⟩ := ra.at h
      exact .inl ⟨_, _, i, v, rfl, rfl, .inl (.inl (hid_le _ _ ha)), h1, q v H (Ex.refl H) h2⟩
    | _ => cases h
  | tup ha _ ra =>
    cases ry with
    | int i =>
      obtain ⟨v, h1, h2⟩ := ra.at h
      exact .inr (.inl ⟨_, _, i, v, rfl, rfl, .inl (.inr ⟨_, hid_le _ _ ha⟩), h1, q v H (Ex.refl H) h2⟩)
    | _ => cases h
  | scr hs ra =>
    cases ry with
    | int i =>
      obtain ⟨v, h1, h2⟩ := ra.at h
      exact .inl ⟨_, _, i, v, rfl, rfl, sqx hid_le hs, h1, q v H (Ex.refl H) h2⟩
    | _ => cases h
  | dct _ _ hp _ => rcases zip_str hp with e | ⟨k, d, r, e⟩ <;> (subst e; cases h)
  | _ => cases h
abbrev XO := VE → Option (Option Int)
def Eo (to : TO) (ρ : VE) (o : Option Int) : Prop := ∀ S σ H, Al S H → En (hid S H) σ ρ → ∀ Q : Option Int → Hp → Prop, (∀ H2, Ex H H2 → Q o H2) → to σ H Q
def SP (to : TO) (x : XO) : Prop := ∀ ρ o, x ρ = some o → Eo to ρ o
def xNoPart : XO := fun _ => some none
def xPart (a : XE) : XO := fun ρ => (a ρ).bind fun d => match d with
  | .int i => some (some i)
  | _ => none
theorem sp_none : SP tNoPart xNoPart := fun ρ o h S σ H al en Q q => by cases h; exact q H (Ex.refl H)
theorem sp_some {ta : TE} {a : XE} (ha : SE ta a) : SP (tPart ta) (xPart a) := fun ρ o h S σ H al en Q q => by
  obtain ⟨d, h1, h⟩ := bind_some h
  cases d with
  | int i =>
    cases h
    exact ha ρ _ h1 S σ H al en _ fun v H1 e1 rv => by cases rv; exact ⟨i, rfl, q H1 e1⟩
  | _ => cases h
def cutD (ds : List PD) (lo hi : Option Int) : List PD := (ds.drop (HT.sIx ds.length 0 lo)).take (HT.sIx ds.length ds.length hi - HT.sIx ds.length 0 lo)
def slP : PD → Option Int → Option Int → Option PD
  | .list ds, lo, hi => some (.list (cutD ds lo hi))
  | .tuple ds, lo, hi => some (.tuple (cutD ds lo hi))
  | .dict [(.none, .list ds)], lo, hi => some (.list (cutD ds lo hi))
  | _, _, _ => none
def rSlU (K : PySem.W.Frag) : V → Option Int → Option Int → Hp → VK → Prop := fun x lo hi H Q => rSlL K x lo hi H Q ∨ rSlF K x lo hi H Q
theorem sl_U {X : Cx} : SlR X (rSlU X.K) := SlR.or sl_list sl_tupF
def xSl (a : XE) (lo hi : XO) : XE := fun ρ => (a ρ).bind fun d => (lo ρ).bind fun l => (hi ρ).bind fun h => slP d l h
theorem RpAll.cut {H : Hp} {vs : List V} {ds : List PD} (r : RpAll H vs ds) (lo hi : Option Int) : RpAll H (cutV vs lo hi) (cutD ds lo hi) := by
  unfold cutV cutD
  rw [r.length]
  exact (r.drop _).take _
theorem se_sl {ta : TE} {tl th : TO} {a : XE} {lo hi : XO} (ha : SE ta a) (hl : SP tl lo) (hh : SP th hi) : SE (tSl (rSlU K) ta tl th) (xSl a lo hi) := fun ρ d h S σ H al en Q q => by
  obtain ⟨x, h1, h⟩ := bind_some h
  obtain ⟨l, h2, h⟩ := bind_some h
  obtain ⟨u, h3, h⟩ := bind_some h
  refine ha ρ x h1 S σ H al en _ fun v H1 e1 rv => hl ρ l h2 S σ H1 (al.ex e1) (en.ex (hid_ex e1)) _ fun H2 e2 => hh ρ u h3 S σ H2 ((al.ex e1).ex e2) ((en.ex (hid_ex e1)).ex (hid_ex e2)) _ fun H3 e3 => ?_
  have e23 := e2.trans e3
  have e13 := e1.trans e23
  have rv3 := rv.ex (hid_ex (S := S) e23)
  cases rv3 with
  | lst ha3 ra3 =>
    cases h
    exact .inl ⟨_, _, rfl, .inl (.inl (hid_le _ _ ha3)), fun p hp => q _ _ (e13.trans (Ex.new hp)) (.lst (new_ok (al.ex e13) hp) ((ra3.cut l u).ex (hid_ex (Ex.new hp))))⟩
  | @tup a o xs ds ha3 pl ra3 =>
    cases h
    refine .inr ⟨_, _, rfl, .inl (.inr ⟨_, hid_le _ _ ha3⟩), fun c => ?_, fun _ p o hp pl => q _ _ (e13.trans (Ex.new hp)) (.tup (new_ok (al.ex e13) hp) pl ((ra3.cut l u).ex (hid_ex (Ex.new hp))))⟩
    have e : cutD ds l u = ds := by
      unfold cutD
      rw [ra3.length] at c
      rw [c.1, c.2, List.drop_zero, Nat.sub_zero, List.take_length]
    exact q _ H3 e13 (by rw [e]; exact .tup ha3 pl ra3)
  | scr hs ra3 =>
    cases h
    exact .inl ⟨_, _, rfl, sqx hid_le hs, fun p hp => q _ _ (e13.trans (Ex.new hp)) (.lst (new_ok (al.ex e13) hp) ((ra3.cut l u).ex (hid_ex (Ex.new hp))))⟩
  | dct _ _ hp _ => rcases zip_str hp with e | ⟨k, d, r, e⟩ <;> (subst e; cases h)
  | _ => cases h
end
end Uv

namespace Uv
open PySem PySem.Spec PyProof.Rows L2
open Evl (Ex)
variable [kk : KK]
section
def on1 (f : PD → Option PD) : List PD → Option PD
  | [x] => f x
  | _ => none
theorem on1_eq {f : PD → Option PD} {xs : List PD} {z : PD} (h : on1 f xs = some z) : ∃ x, xs = [x] ∧ f x = some z := by
  match xs, h with
  | [x], h => exact ⟨x, rfl, h⟩
  | [], h => cases h
  | _ :: _ :: _, h => cases h
theorem sc_on1 {r : List V → Hp → VK → Prop} {f : PD → Option PD} (hf : ∀ x z, f x = some z → ∀ S H v, Al S H → Rp (hid S H) v x → ∀ Q : VK, (∀ v H2, Ex H H2 → Rp (hid S H2) v z → Q v H2) → r [v] H Q) : SC r (on1 f) := fun xs z h S H vs al rv Q q => by
  obtain ⟨x, rfl, h⟩ := on1_eq h
  cases rv with
  | cons h1 t => cases t; exact hf x z h S H _ al h1 Q q
def rLenQ (K : PySem.W.Frag) : List V → Hp → VK → Prop := fun xs H Q => ∃ p ys, xs = [.ref p] ∧ (SqL K H p ys ∨ SqT K H p ys) ∧ Q (.int ys.length) H
def lenP : PD → Option PD
  | .list ds => some (.int (ds.length : Nat))
  | .tuple ds => some (.int (ds.length : Nat))
  | .dict [(.none, .list ds)] => some (.int (ds.length : Nat))
  | _ => none
theorem sc_len : SC (rLenQ K) (on1 lenP) := sc_on1 fun x z h S H v al rv Q q => by
  cases rv with
  | lst ha ra => cases h; exact ⟨_, _, rfl, .inl (.inl (.inl (hid_le _ _ ha))), q _ H (Ex.refl H) (ra.length ▸ .int _)⟩
  | tup ha _ ra => cases h; exact ⟨_, _, rfl, .inr (.inl (.inr ⟨_, hid_le _ _ ha⟩)), q _ H (Ex.refl H) (ra.length ▸ .int _)⟩
  | scr hs ra => cases h; exact ⟨_, _, rfl, .inl (sqx hid_le hs), q _ H (Ex.refl H) (ra.length ▸ .int _)⟩
  | dct _ _ hp _ => rcases zip_str hp with e | ⟨k, d, r, e⟩ <;> (subst e; cases h)
  | _ => cases h
def absP : PD → Option PD
  | .int i => some (.int (if i < 0 then -i else i))
  | _ => none
theorem sc_abs : SC rAbsQ (on1 absP) := sc_on1 fun x z h S H v al rv Q q => by
  cases rv with
  | int i => cases h; exact ⟨i, rfl, q _ H (Ex.refl H) (.int _)⟩
  | _ => cases h
def toIntP : PD → Option PD
  | .int i => some (.int i)
  | .bool b => some (.int (if b then 1 else 0))
  | _ => none
theorem sc_int : SC rIntQ (on1 toIntP) := sc_on1 fun x z h S H v al rv Q q => by
  cases rv with
  | int i => cases h; exact .inl ⟨i, rfl, q _ H (Ex.refl H) (.int _)⟩
  | bl b => cases h; exact .inr ⟨b, rfl, q _ H (Ex.refl H) (.int _)⟩
  | _ => cases h
def intsP (f : List Int → Option PD) : PD → Option PD
  | .list ds => (unI ds).bind f
  | _ => none
def boolsP (f : List Bool → PD) : PD → Option PD
  | .list ds => (unB ds).bind fun bs => some (f bs)
  | _ => none
def allP : PD → Option PD := boolsP fun bs => .bool (bs.all id)
theorem sc_all : SC (rAll K) (on1 allP) := sc_on1 fun x z h S H v al rv Q q => by
  cases rv with
  | lst ha ra =>
    obtain ⟨ns, h1, h2⟩ := bind_some h
    have e := unB_eq h1
    subst e
    have e := ra.bools
    subst e
    cases h2
    exact ⟨_, ns, rfl, .inl (.inl (hid_le _ _ ha)), q _ H (Ex.refl H) (.bl _)⟩
  | _ => cases h
def tupP : PD → Option PD
  | .list ds => some (.tuple ds)
  | .tuple ds => some (.tuple ds)
  | _ => none
theorem sc_tup : SC (rTupF K) (on1 tupP) := sc_on1 fun x z h S H v al rv Q q => by
  cases rv with
  | lst ha ra => cases h; exact ⟨_, _, rfl, .inl ⟨.inl (.inl (hid_le _ _ ha)), fun l o hl pl => q _ _ (Ex.new hl) (.tup (new_ok al hl) pl (ra.ex (hid_ex (Ex.new hl))))⟩⟩
  | tup ha p ra => cases h; exact ⟨_, _, rfl, .inr ⟨.inl (.inr ⟨_, hid_le _ _ ha⟩), q _ H (Ex.refl H) (.tup ha p ra)⟩⟩
  | _ => cases h
def tyN : PD → String
  | .none => "NoneType"
  | .bool _ => "bool"
  | .int _ => "int"
  | .str _ => "str"
  | .list _ => "list"
  | .tuple _ => "tuple"
  | .dict _ => "dict"
def full : PD → Bool
  | .dict ((.none, _) :: _) => true
  | _ => false
theorem Rp.ty {H : Hp} {v : V} {d : PD} (r : Rp H v d) (nf : full d = false) : TyX K H v (.type (tyN d)) := by
  cases r with
  | non => exact .base .non
  | bl b => exact .base (.bl b)
  | int i => exact .base (.int i)
  | str x => exact .base (.str x)
  | lst h _ => exact .base (.lst h)
  | tup h _ _ => exact .fTuple h
  | dct h _ _ _ => exact .base (.dK h)
  | dci h _ _ => exact .base (.dK h)
  | scr _ _ => cases nf
  | exo _ _ _ _ => cases nf
  | «fun» _ => cases nf
  | hal _ _ _ _ _ => cases nf
inductive Ty | int | bool | str | list | tuple | dict
def Ty.nm : Ty → String
  | .int => "int" | .bool => "bool" | .str => "str" | .list => "list" | .tuple => "tuple" | .dict => "dict"
def isTy : Ty → PD → Bool
  | .int, .int _ => true
  | .int, .bool _ => true
  | .bool, .bool _ => true
  | .str, .str _ => true
  | .list, .list _ => true
  | .tuple, .tuple _ => true
  | .dict, .dict _ => true
  | _, _ => false
theorem kit_c : ∀ t : Ty, kitB "NoneType" t.nm = some (isTy t .none) ∧ kitB "bool" t.nm = some (isTy t (.bool true)) ∧ kitB "int" t.nm = some (isTy t (.int 0)) ∧ kitB "str" t.nm = some (isTy t (.str (Str.ofString ""))) ∧ kitB "list" t.nm = some (isTy t (.list [])) ∧ kitB "tuple" t.nm = some (isTy t (.tuple [])) ∧ kitB "dict" t.nm = some (isTy t (.dict [])) := by
  intro t
  cases t <;> decide +kernel
theorem kit_of : ∀ (t : Ty) (d : PD), kitB (tyN d) t.nm = some (isTy t d) := by
  intro t d
  obtain ⟨h1, h2, h3, h4, h5, h6, h7⟩ := kit_c t
  cases d with
  | none => exact h1
  | bool b => exact h2.trans (by cases t <;> rfl)
  | int i => exact h3.trans (by cases t <;> rfl)
  | str x => exact h4.trans (by cases t <;> rfl)
  | list xs => exact h5.trans (by cases t <;> rfl)
  | tuple xs => exact h6.trans (by cases t <;> rfl)
  | dict xs => exact h7.trans (by cases t <;> rfl)
def xIsi (t : Ty) (a : XE) : XE := fun ρ => (a ρ).bind fun d => if full d = true then none else some (.bool (isTy t d))
theorem se_isi {ta : TE} {a : XE} {n : String} (t : Ty) (hn : t.nm = n) (ha : SE ta a) : SE (tCB (rIsi K) (tCons ta (tCons (tC (.ty n)) tNil))) (xIsi t a) := fun ρ d h S σ H al en Q q => by
  obtain ⟨x, h1, h⟩ := bind_some h
  have nf : full x = false := by
    cases q : full x with
    | true => rw [if_pos q] at h; cases h
    | false => rfl
  rw [if_neg (by rw [nf]; exact Bool.false_ne_true)] at h
  cases h
  subst hn
  exact ha ρ x h1 S σ H al en _ fun v H1 e1 rv => ⟨_, .ty t.nm, _, .type t.nm, isTy t x, rfl, .ty t.nm, (rv.ex hid_le).ty nf, kit_ty (kit_of t x), q _ H1 e1 (.bl _)⟩
def rRepr (K : PySem.W.Frag) : List V → Hp → VK → Prop := fun vs H Q => ∃ v d, vs = [v] ∧ Rp H v d ∧ d.showable = true ∧ scrF d = true ∧ d.depth ≤ 60 ∧ d.shown.length ≤ sizeLine ∧ Q (.str d.shown) H
theorem cr_repr {X : Cx} (hg : X.A.guards = some []) (hu : X.A.units + 65 < cLine) : CallR X (.builtin "repr") (rRepr X.K) := by
  intro pins s σ H vs us Q I r h
  obtain ⟨v, d, rfl, hd, sh, nd, dp, sz, q⟩ := h
  obtain ⟨u, rfl, ru⟩ : ∃ u, us = [u] ∧ RelV v u := by
    cases r with
    | cons p t => cases t; exact ⟨_, rfl, p⟩
  have rd := Rp.rm I hd nd ru
  have fin : ∀ h' tk t, (∀ b o, s.heap.get? b = some o → h'.get? b = some o) → ∃ v H', L2.Inv X pins σ H' { s with heap := h', toks := tk } ∧ RelV v (.str d.shown t) ∧ Q v H' := fun h' tk t hk => ⟨.str _, H, I.kept hk, ⟨_, rfl⟩, q⟩
  cases rd with
  | non => exact P.repr_of_none (fin s.heap _ _ fun _ _ e => e)
  | bl b => exact P.repr_of_bool (by cases b <;> exact fin s.heap _ _ fun _ _ e => e)
  | int i t => exact P.repr_of_int (by simpa [PyData.showable] using sh) (fin s.heap _ _ fun _ _ e => e)
  | str x t => exact P.repr_of_str (fin s.heap _ _ fun _ _ e => e) sz
  | lst h1 h2 h3 h4 => exact Rm.repr (.lst h1 h2 h3 h4) sh hg (by omega) (fun h' u tk hk => fin h' tk u hk) sz
  | tup h1 h2 h3 h4 => exact Rm.repr (.tup h1 h2 h3 h4) sh hg (by omega) (fun h' u tk hk => fin h' tk u hk) sz
  | dct h1 h2 h3 h4 h5 h6 => exact Rm.repr (.dct h1 h2 h3 h4 h5 h6) sh hg (by omega) (fun h' u tk hk => fin h' tk u hk) sz
def CanShow (d : PD) : Prop := d.showable = true ∧ scrF d = true ∧ d.depth ≤ 60 ∧ d.shown.length ≤ sizeLine
instance {d : PD} : Decidable (CanShow d) := inferInstanceAs (Decidable (_ ∧ _))
def reprP (d : PD) : Option PD := if CanShow d then some (.str d.shown) else none
theorem sc_repr : SC (rRepr K) (on1 reprP) := sc_on1 fun x z h S H v al rv Q q => by
  unfold reprP at h
  by_cases c : CanShow x
  · rw [if_pos c] at h
    cases h
    exact ⟨v, x, rfl, rv.ex hid_le, c.1, c.2.1, c.2.2.1, c.2.2.2, q _ H (Ex.refl H) (.str _)⟩
  · rw [if_neg c] at h; cases h
end
end Uv

namespace Uv
open PySem PySem.Spec PyProof.Rows L2
open Evl (Ex)
variable [kk : KK]
structure HS where
  ws : List PD
  st : List PD
  bz : Bool
  lg : List PD
def HS.pd (h : HS) : PD := hallD h.ws h.st h.bz h.lg
inductive Cel | dat (d : PD) | sub (ds : List PD) | hal (h : HS)
def Cel.pd : Cel → PD
  | .dat d => d
  | .sub ds => .list ds
  | .hal h => h.pd
inductive Sl | un | dat (d : PD) | own (cs : List Cel) | dic (kvs : List (Int × PD)) | hal (k : Nat) (h : HS)
abbrev Pn := Nat → Option V
def pn0 : Pn := fun _ => none
def pn1 (v : V) : Pn := fun i => if i = 0 then some v else none
abbrev Env := List Sl
def Sl.vw : Sl → Option PD
  | .un => none
  | .dat d => some d
  | .own cs => some (.list (cs.map Cel.pd))
  | .dic _ => none
  | .hal _ h => some h.pd
def Sl.mk : Sl → Option PD
  | .dat d => some d
  | _ => none
def vw (ρ : Env) : VE := ρ.map Sl.vw
def mk (ρ : Env) : VE := ρ.map Sl.mk
abbrev Trs := Nat → List Addr
def SF (F : Hs) (T : Trs) : Hs := fun x => F x ∨ ∃ i, x ∈ T i
def FL (F : Hs) (L : List Addr) : Hs := fun x => F x ∨ x ∈ L
def Hal (G H : Hp) (v : V) (h : HS) (A : List Addr) : Prop := ∃ (a dx l : Addr) (w s : V) (lv : List V), v = .ref a ∧ H a = some (.ins kk.hall dx (hallF w s h.bz l)) ∧ H dx = some (.own a) ∧ H l = some (.lst lv) ∧ Rp G w (.tuple h.ws) ∧ Rp G s (.tuple h.st) ∧ RpAll G lv h.lg ∧ A = [a, dx, l]
theorem Hal.mv {G G' H H' : Hp} (e : Ex G G') {v : V} {h : HS} {A : List Addr} (k : ∀ x ∈ A, H' x = H x) (o : Hal G H v h A) : Hal G' H' v h A := by
  obtain ⟨a, dx, l, w, s, lv, rfl, h1, h2, h3, h4, h5, h6, rfl⟩ := o
  exact ⟨a, dx, l, w, s, lv, rfl, (k a (by simp)).trans h1, (k dx (by simp)).trans h2, (k l (by simp)).trans h3, h4.ex e, h5.ex e, h6.ex e, rfl⟩
theorem Hal.nfz {G H : Hp} {v : V} {h : HS} {A : List Addr} (o : Hal G H v h A) : ∀ x ∈ A, ∃ ob, H x = some ob ∧ ∀ o u, ob ≠ .frz o u := fun x hx => by
  obtain ⟨a, dx, l, w, s, lv, rfl, h1, h2, h3, h4, h5, h6, rfl⟩ := o
  simp only [List.mem_cons, List.not_mem_nil, or_false] at hx
  rcases hx with rfl | rfl | rfl
  · exact ⟨_, h1, fun o u z => nomatch z⟩
  · exact ⟨_, h2, fun o u z => nomatch z⟩
  · exact ⟨_, h3, fun o u z => nomatch z⟩
theorem Hal.rp {G G' H : Hp} (e : Ex G G') {v : V} {h : HS} {A : List Addr} (hs : ∀ x ∈ A, G' x = H x) (o : Hal G H v h A) : Rp G' v h.pd := by
  obtain ⟨a, dx, l, w, s, lv, rfl, h1, h2, h3, h4, h5, h6, rfl⟩ := o
  exact .hal ((hs a (by simp)).trans h1) ((hs l (by simp)).trans h3) (h4.ex e) (h5.ex e) (h6.ex e)
def LO : HO → Prop
  | .lst _ => True
  | .ins _ _ _ => True
  | .own _ => True
  | _ => False
theorem Hal.lo {G H : Hp} {v : V} {h : HS} {A : List Addr} (o : Hal G H v h A) : ∀ x ∈ A, ∃ ob, H x = some ob ∧ LO ob := fun x hx => by
  obtain ⟨a, dx, l, w, s, lv, rfl, h1, h2, h3, h4, h5, h6, rfl⟩ := o
  simp only [List.mem_cons, List.not_mem_nil, or_false] at hx
  rcases hx with rfl | rfl | rfl
  · exact ⟨_, h1, trivial⟩
  · exact ⟨_, h2, trivial⟩
  · exact ⟨_, h3, trivial⟩
inductive Cels (G H : Hp) : List V → List Cel → List Addr → Prop
  | nil : Cels G H [] [] []
  | dat {v : V} {d : PD} {vs : List V} {cs : List Cel} {B : List Addr} : Rp G v d → Cels G H vs cs B → Cels G H (v :: vs) (.dat d :: cs) B
  | sub {b : Addr} {ws : List V} {ds : List PD} {vs : List V} {cs : List Cel} {B : List Addr} : H b = some (.lst ws) → RpAll G ws ds → Cels G H vs cs B → Cels G H (.ref b :: vs) (.sub ds :: cs) (b :: B)
  | hal {h : HS} {A : List Addr} {v : V} {vs : List V} {cs : List Cel} {B : List Addr} : Hal G H v h A → Cels G H vs cs B → Cels G H (v :: vs) (.hal h :: cs) (A ++ B)
def Own (G H : Hp) (v : V) (cs : List Cel) (A : List Addr) : Prop := ∃ a vs B, v = .ref a ∧ H a = some (.lst vs) ∧ Cels G H vs cs B ∧ A = a :: B
inductive Kvs (G : Hp) : List (Key × V) → List (Int × PD) → Prop
  | nil : Kvs G [] []
  | cons {k : Int} {v : V} {d : PD} {ks : List (Key × V)} {l : List (Int × PD)} : Rp G v d → Kvs G ks l → Kvs G ((.inl k, v) :: ks) ((k, d) :: l)
theorem Kvs.ex {G G' : Hp} (e : Ex G G') : ∀ {ks : List (Key × V)} {l : List (Int × PD)}, Kvs G ks l → Kvs G' ks l
  | _, _, .nil => .nil
  | _, _, .cons r c => .cons (r.ex e) (c.ex e)
def Dc (G H : Hp) (v : V) (l : List (Int × PD)) (A : List Addr) : Prop := ∃ a ks, v = .ref a ∧ H a = some (.dK ks) ∧ Kvs G ks l ∧ A = [a]
theorem Dc.mv {G G' H H' : Hp} (e : Ex G G') {v : V} {l : List (Int × PD)} {A : List Addr} (h : ∀ x ∈ A, H' x = H x) (o : Dc G H v l A) : Dc G' H' v l A := by
  obtain ⟨a, ks, rfl, ha, c, rfl⟩ := o
  exact ⟨a, ks, rfl, (h a (List.mem_cons_self ..)).trans ha, c.ex e, rfl⟩
def SlOk (pn : Pn) (G H : Hp) (o : Option V) (s : Sl) (A : List Addr) : Prop := match s with
  | .un => A = []
  | .dat d => A = [] ∧ ∃ v, o = some v ∧ Rp G v d
  | .own cs => ∃ v, o = some v ∧ Own G H v cs A
  | .dic l => ∃ v, o = some v ∧ Dc G H v l A
  | .hal k h => ∃ v, o = some v ∧ Hal G H v h A ∧ ∀ v0, pn k = some v0 → k < 1000 → v = v0
structure StOk (pn : Pn) (F : Hs) (T : Trs) (H : Hp) (σ : L2.St) (ρ : Env) : Prop where
  len : σ.length = ρ.length
  al : Al F H
  off : ∀ i x, x ∈ T i → ¬ F x
  dis : ∀ i j x, x ∈ T i → x ∈ T j → i = j
  nd : ∀ i, (T i).Nodup
  out : ∀ i, ρ.length ≤ i → T i = []
  sl : ∀ i s, ρ[i]? = some s → ∃ o, σ[i]? = some o ∧ SlOk pn (hid (SF F T) H) H o s (T i)
  pin : ∀ v, pn 0 = some v → σ[0]? = some (some v)
structure Stp (F : Hs) (T : Trs) (H : Hp) (T' : Trs) (H' : Hp) : Prop where
  fr : ∀ x, F x → H' x = H x
  vis : Ex (hid (SF F T) H) (hid (SF F T') H')
section
variable {pn : Pn} {F : Hs} {T T' T'' : Trs} {G G' H H' H'' : Hp} {σ : L2.St} {ρ : Env}
theorem Stp.refl : Stp F T H T H := ⟨fun _ _ => rfl, Ex.refl _⟩
theorem Stp.trans (a : Stp F T H T' H') (b : Stp F T' H' T'' H'') : Stp F T H T'' H'' := ⟨fun x h => (b.fr x h).trans (a.fr x h), a.vis.trans b.vis⟩
theorem Stp.ex (al : Al F H) (e : Ex H H') : Stp F T H T H' := ⟨fun x h => by
  cases q : H x with
  | none => exact absurd q (al x h)
  | some o => exact e x o q, hid_ex e⟩
theorem Cels.mv (e : Ex G G') : ∀ {vs : List V} {cs : List Cel} {B : List Addr}, (∀ x ∈ B, H' x = H x) → Cels G H vs cs B → Cels G' H' vs cs B
  | _, _, _, _, .nil => .nil
  | _, _, _, h, .dat r c => .dat (r.ex e) (Cels.mv e h c)
  | _, _, _, h, .sub hb r c => .sub ((h _ (List.mem_cons_self ..)).trans hb) (r.ex e) (Cels.mv e (fun x hx => h x (List.mem_cons_of_mem _ hx)) c)
  | _, _, _, h, .hal o c => .hal (o.mv e fun x hx => h x (List.mem_append_left _ hx)) (Cels.mv e (fun x hx => h x (List.mem_append_right _ hx)) c)
theorem Own.mv (e : Ex G G') {v : V} {cs : List Cel} {A : List Addr} (h : ∀ x ∈ A, H' x = H x) (o : Own G H v cs A) : Own G' H' v cs A := by
  obtain ⟨a, vs, B, rfl, ha, c, rfl⟩ := o
  exact ⟨a, vs, B, rfl, (h a (List.mem_cons_self ..)).trans ha, c.mv e fun x hx => h x (List.mem_cons_of_mem _ hx), rfl⟩
theorem SlOk.mv (e : Ex G G') {o : Option V} {s : Sl} {A : List Addr} (h : ∀ x ∈ A, H' x = H x) (q : SlOk pn G H o s A) : SlOk pn G' H' o s A := by
  cases s with
  | un => exact q
  | dat d => obtain ⟨z, v, e1, r⟩ := q; exact ⟨z, v, e1, r.ex e⟩
  | own cs => obtain ⟨v, e1, r⟩ := q; exact ⟨v, e1, r.mv e h⟩
  | dic l => obtain ⟨v, e1, r⟩ := q; exact ⟨v, e1, r.mv e h⟩
  | hal k l => obtain ⟨v, e1, r, p⟩ := q; exact ⟨v, e1, r.mv e h, p⟩
theorem Cels.lst : ∀ {vs : List V} {cs : List Cel} {B : List Addr}, Cels G H vs cs B → ∀ x ∈ B, ∃ ob, H x = some ob ∧ LO ob
  | _, _, _, .nil, x, h => nomatch h
  | _, _, _, .dat _ c, x, h => c.lst x h
  | _, _, _, .sub hb _ c, x, h => by
    rcases List.mem_cons.mp h with z | z
    · subst z; exact ⟨_, hb, trivial⟩
    · exact c.lst x z
  | _, _, _, .hal o c, x, h => by
    rcases List.mem_append.mp h with z | z
    · exact o.lo x z
    · exact c.lst x z
theorem Own.lst {v : V} {cs : List Cel} {A : List Addr} (o : Own G H v cs A) : ∀ x ∈ A, ∃ ob, H x = some ob ∧ LO ob := fun x h => by
  obtain ⟨a, vs, B, rfl, ha, c, rfl⟩ := o
  rcases List.mem_cons.mp h with z | z
  · subst z; exact ⟨_, ha, trivial⟩
  · exact c.lst x z
theorem Cels.length : ∀ {vs : List V} {cs : List Cel} {B : List Addr}, Cels G H vs cs B → vs.length = cs.length
  | _, _, _, .nil => rfl
  | _, _, _, .dat _ c => by rw [List.length_cons, List.length_cons, c.length]
  | _, _, _, .sub _ _ c => by rw [List.length_cons, List.length_cons, c.length]
  | _, _, _, .hal _ c => by rw [List.length_cons, List.length_cons, c.length]
theorem Cels.rp (e : Ex G G') (hs : ∀ x ∈ B, G' x = H x) : ∀ {vs : List V} {cs : List Cel}, Cels G H vs cs B → RpAll G' vs (cs.map Cel.pd)
  | _, _, .nil => .nil
  | _, _, .dat r c => .cons (r.ex e) (c.rp e hs)
  | _, _, .sub hb r c => .cons (.lst ((hs _ (List.mem_cons_self ..)).trans hb) (r.ex e)) (c.rp e fun x hx => hs x (List.mem_cons_of_mem _ hx))
  | _, _, .hal o c => .cons (o.rp e fun x hx => hs x (List.mem_append_left _ hx)) (c.rp e fun x hx => hs x (List.mem_append_right _ hx))
theorem Own.rp (e : Ex G G') {v : V} {cs : List Cel} {A : List Addr} (hs : ∀ x ∈ A, G' x = H x) (o : Own G H v cs A) : Rp G' v (.list (cs.map Cel.pd)) := by
  obtain ⟨a, vs, B, rfl, ha, c, rfl⟩ := o
  exact .lst ((hs a (List.mem_cons_self ..)).trans ha) (c.rp e fun x hx => hs x (List.mem_cons_of_mem _ hx))
theorem StOk.lst (st : StOk pn F T H σ ρ) {i : Nat} {x : Addr} (h : x ∈ T i) : ∃ ob, H x = some ob ∧ ∀ o u, ob ≠ .frz o u := by
  by_cases c : i < ρ.length
  · obtain ⟨o, _, q⟩ := st.sl i _ (List.getElem?_eq_getElem c)
    cases e : ρ[i] with
    | un => rw [e] at q; rw [show T i = [] from q] at h; cases h
    | dat d => rw [e] at q; rw [q.1] at h; cases h
    | own cs => rw [e] at q; obtain ⟨v, _, q⟩ := q; obtain ⟨ob, g, lo⟩ := q.lst x h; exact ⟨_, g, fun o u z => by rw [z] at lo; exact lo⟩
    | dic l =>
      rw [e] at q
      obtain ⟨v, _, a, ks, _, ha, _, hA⟩ := q
      rw [hA] at h
      have : x = a := by simpa using h
      rw [this]
      exact ⟨_, ha, fun o u z => nomatch z⟩
    | hal k l => rw [e] at q; obtain ⟨v, _, q, _⟩ := q; exact q.nfz x h
  · rw [st.out i (by omega)] at h; cases h
theorem StOk.als (st : StOk pn F T H σ ρ) : Al (SF F T) H := fun x h z => h.elim (fun h => st.al x h z) fun ⟨i, h⟩ => by
  obtain ⟨vs, e, _⟩ := st.lst h
  rw [z] at e
  cases e
theorem StOk.mv (st : StOk pn F T H σ ρ) (e : Ex (hid (SF F T) H) (hid (SF F T) H')) (h : ∀ i x, x ∈ T i → H' x = H x) (al : Al F H') : StOk pn F T H' σ ρ :=
  ⟨st.len, al, st.off, st.dis, st.nd, st.out, fun i s hi => let ⟨o, h1, h2⟩ := st.sl i s hi; ⟨o, h1, h2.mv e (h i)⟩, st.pin⟩
theorem StOk.ex (st : StOk pn F T H σ ρ) (e : Ex H H') : StOk pn F T H' σ ρ := st.mv (hid_ex e) (fun i x hx => by
  obtain ⟨vs, q, _⟩ := st.lst hx
  rw [q, e x _ q]) (st.al.ex e)
theorem StOk.vw (st : StOk pn F T H σ ρ) : En (hid F H) σ (vw ρ) := by
  refine ⟨by rw [st.len]; unfold Uv.vw; rw [List.length_map], fun i d hi => ?_⟩
  unfold Uv.vw at hi
  rw [List.getElem?_map] at hi
  cases q : ρ[i]? with
  | none => rw [q] at hi; cases hi
  | some s =>
    rw [q] at hi
    have hi : s.vw = some d := Option.some.inj hi
    obtain ⟨o, h1, h2⟩ := st.sl i s q
    cases s with
    | un => cases hi
    | dat d' =>
      cases hi
      obtain ⟨_, v, rfl, r⟩ := h2
      exact ⟨v, h1, r.ex (hid_sub fun x h => .inl h)⟩
    | own cs =>
      cases hi
      obtain ⟨v, rfl, r⟩ := h2
      exact ⟨v, h1, r.rp (hid_sub fun x h => .inl h) fun x hx => hid_out (st.off i x hx)⟩
    | dic l => cases hi
    | hal k l =>
      cases hi
      obtain ⟨v, rfl, r, _⟩ := h2
      exact ⟨v, h1, r.rp (hid_sub fun x h => .inl h) fun x hx => hid_out (st.off i x hx)⟩
theorem StOk.mkd (st : StOk pn F T H σ ρ) : En (hid (SF F T) H) σ (Uv.mk ρ) := by
  refine ⟨by rw [st.len]; unfold Uv.mk; rw [List.length_map], fun i d hi => ?_⟩
  unfold Uv.mk at hi
  rw [List.getElem?_map] at hi
  cases q : ρ[i]? with
  | none => rw [q] at hi; cases hi
  | some s =>
    rw [q] at hi
    have hi : s.mk = some d := Option.some.inj hi
    obtain ⟨o, h1, h2⟩ := st.sl i s q
    cases s with
    | dat d' =>
      cases hi
      obtain ⟨_, v, rfl, r⟩ := h2
      exact ⟨v, h1, r⟩
    | _ => cases hi
def setT (T : Trs) (i : Nat) (A : List Addr) : Trs := fun j => if j = i then A else T j
theorem setT_same {i : Nat} {A : List Addr} : setT T i A i = A := if_pos rfl
theorem setT_ne {i j : Nat} {A : List Addr} (h : j ≠ i) : setT T i A j = T j := if_neg h
theorem SF_setT_nil {i : Nat} : ∀ x, SF F (setT T i []) x → SF F T x := fun x h => h.elim .inl fun ⟨j, hj⟩ => .inr (by
  by_cases c : j = i
  · subst c; rw [setT_same] at hj; cases hj
  · rw [setT_ne c] at hj; exact ⟨j, hj⟩)
theorem StOk.drop (st : StOk pn F T H σ ρ) {i : Nat} {o : Option V} {s : Sl} (hi0 : i ≠ 0) (hs : SlOk pn (hid (SF F (setT T i [])) H) H o s []) : StOk pn F (setT T i []) H (σ.set i o) (ρ.set i s) ∧ Stp F T H (setT T i []) H := by
  have sub : Ex (hid (SF F T) H) (hid (SF F (setT T i [])) H) := hid_sub SF_setT_nil
  have mem : ∀ j x, x ∈ setT T i [] j → x ∈ T j ∧ j ≠ i := fun j x h => by
    by_cases c : j = i
    · subst c; rw [setT_same] at h; cases h
    · rw [setT_ne c] at h; exact ⟨h, c⟩
  refine ⟨⟨by rw [List.length_set, List.length_set]; exact st.len, st.al, fun j x h => st.off j x (mem j x h).1, fun j k x h h' => st.dis j k x (mem j x h).1 (mem k x h').1, fun j => ?_, fun j hj => ?_, fun j q hq => ?_, fun v hv => ?_⟩, ⟨fun _ _ => rfl, sub⟩⟩
  · by_cases c : j = i
    · subst c; rw [setT_same]; exact List.nodup_nil
    · rw [setT_ne c]; exact st.nd j
  · rw [List.length_set] at hj
    by_cases c : j = i
    · subst c; rw [setT_same]
    · rw [setT_ne c]; exact st.out j hj
  · by_cases c : i = j
    · subst c
      have hl : i < ρ.length := by
        have := (List.getElem?_eq_some_iff.mp hq).1
        simpa using this
      rw [List.getElem?_set_self hl] at hq
      cases hq
      rw [setT_same]
      exact ⟨o, List.getElem?_set_self (by rw [st.len]; exact hl), hs⟩
    · rw [List.getElem?_set_ne c] at hq
      obtain ⟨o', h1, h2⟩ := st.sl j q hq
      rw [List.getElem?_set_ne c, setT_ne (fun z => c z.symm)]
      exact ⟨o', h1, h2.mv sub fun _ _ => rfl⟩
  · rw [List.getElem?_set_ne hi0]
    exact st.pin v hv
theorem StOk.set (st : StOk pn F T H σ ρ) {i : Nat} (hi0 : i ≠ 0) {v : V} {d : PD} (r : Rp (hid (SF F T) H) v d) : StOk pn F (setT T i []) H (σ.set i (some v)) (ρ.set i (.dat d)) ∧ Stp F T H (setT T i []) H :=
  st.drop hi0 ⟨rfl, v, rfl, r.ex (hid_sub SF_setT_nil)⟩
theorem StOk.ownG {A : List Addr} (st : StOk pn (FL F A) T H σ ρ) {i : Nat} (hi0 : i ≠ 0) (hi : i < ρ.length) {v : V} {s0 : Sl} (o : ∀ G', Ex (hid (SF (FL F A) T) H) G' → SlOk pn G' H (some v) s0 A) (nd : A.Nodup) (off : ∀ x ∈ A, ¬ F x) :
    StOk pn F (setT T i A) H (σ.set i (some v)) (ρ.set i s0) ∧ Ex (hid (SF (FL F A) T) H) (hid (SF F (setT T i A)) H) := by
  have sub : Ex (hid (SF (FL F A) T) H) (hid (SF F (setT T i A)) H) := hid_sub fun x h => h.elim (fun h => .inl (.inl h)) fun ⟨j, hj⟩ => by
    by_cases c : j = i
    · subst c; rw [setT_same] at hj; exact .inl (.inr hj)
    · rw [setT_ne c] at hj; exact .inr ⟨j, hj⟩
  have mem : ∀ j x, x ∈ setT T i A j → (j = i ∧ x ∈ A) ∨ (j ≠ i ∧ x ∈ T j) := fun j x h => by
    by_cases c : j = i
    · subst c; rw [setT_same] at h; exact .inl ⟨rfl, h⟩
    · rw [setT_ne c] at h; exact .inr ⟨c, h⟩
  refine ⟨⟨by rw [List.length_set, List.length_set]; exact st.len, fun x h => st.al x (.inl h), fun j x h => ?_, fun j k x h h' => ?_, fun j => ?_, fun j hj => ?_, fun j q hq => ?_, fun v hv => ?_⟩, sub⟩
  · rcases mem j x h with ⟨_, h⟩ | ⟨_, h⟩
    · exact off x h
    · exact fun z => st.off j x h (.inl z)
  · rcases mem j x h with ⟨e, h⟩ | ⟨e, h⟩
    · rcases mem k x h' with ⟨e', h'⟩ | ⟨e', h'⟩
      · rw [e, e']
      · exact absurd (.inr h) (st.off k x h')
    · rcases mem k x h' with ⟨e', h'⟩ | ⟨e', h'⟩
      · exact absurd (.inr h') (st.off j x h)
      · exact st.dis j k x h h'
  · by_cases c : j = i
    · subst c; rw [setT_same]; exact nd
    · rw [setT_ne c]; exact st.nd j
  · rw [List.length_set] at hj
    rw [setT_ne (by omega)]
    exact st.out j hj
  · by_cases c : i = j
    · subst c
      rw [List.getElem?_set_self hi] at hq
      cases hq
      rw [setT_same]
      exact ⟨some v, List.getElem?_set_self (by rw [st.len]; exact hi), o _ sub⟩
    · rw [List.getElem?_set_ne c] at hq
      obtain ⟨o', h1, h2⟩ := st.sl j q hq
      rw [List.getElem?_set_ne c, setT_ne (fun z => c z.symm)]
      exact ⟨o', h1, h2.mv sub fun _ _ => rfl⟩
  · rw [List.getElem?_set_ne hi0]
    exact st.pin v hv
theorem StOk.own {A : List Addr} (st : StOk pn (FL F A) T H σ ρ) {i : Nat} (hi0 : i ≠ 0) (hi : i < ρ.length) {v : V} {cs : List Cel} (o : Own (hid (SF (FL F A) T) H) H v cs A) (nd : A.Nodup) (off : ∀ x ∈ A, ¬ F x) :
    StOk pn F (setT T i A) H (σ.set i (some v)) (ρ.set i (.own cs)) ∧ Ex (hid (SF (FL F A) T) H) (hid (SF F (setT T i A)) H) :=
  st.ownG hi0 hi (fun G' e => ⟨v, rfl, o.mv e fun _ _ => rfl⟩) nd off
theorem StOk.halN {A : List Addr} (st : StOk pn (FL F A) T H σ ρ) {i k : Nat} (hi0 : i ≠ 0) (hi : i < ρ.length) (hk : 1000 ≤ k) {v : V} {h : HS} (o : Hal (hid (SF (FL F A) T) H) H v h A) (nd : A.Nodup) (off : ∀ x ∈ A, ¬ F x) :
    StOk pn F (setT T i A) H (σ.set i (some v)) (ρ.set i (.hal k h)) ∧ Ex (hid (SF (FL F A) T) H) (hid (SF F (setT T i A)) H) :=
  st.ownG hi0 hi (fun G' e => ⟨v, rfl, o.mv e fun _ _ => rfl, fun v0 _ z => absurd z (by omega)⟩) nd off
theorem StOk.thaw {A : List Addr} (st : StOk pn (FL F A) T H σ ρ) : StOk pn F T H σ ρ ∧ Ex (hid (SF (FL F A) T) H) (hid (SF F T) H) := by
  have sub : Ex (hid (SF (FL F A) T) H) (hid (SF F T) H) := hid_sub fun x h => h.elim (fun h => .inl (.inl h)) .inr
  exact ⟨⟨st.len, fun x h => st.al x (.inl h), fun i x h z => st.off i x h (.inl z), st.dis, st.nd, st.out, fun i s hi => let ⟨o, h1, h2⟩ := st.sl i s hi; ⟨o, h1, h2.mv sub fun _ _ => rfl⟩, st.pin⟩, sub⟩
theorem StOk.write (st : StOk pn F T H σ ρ) {i : Nat} {cs cs' : List Cel} {a : Addr} {vs' : List V} {B : List Addr} (hi : ρ[i]? = some (.own cs)) (hT : T i = a :: B) (hσ : σ[i]? = some (some (.ref a))) (hc : Cels (hid (SF F T) H) H vs' cs' B) :
    StOk pn F T (upd H a (.lst vs')) σ (ρ.set i (.own cs')) ∧ Stp F T H T (upd H a (.lst vs')) := by
  have ha : a ∈ T i := by rw [hT]; exact List.mem_cons_self ..
  have hab : a ∉ B := by have := st.nd i; rw [hT] at this; exact (List.nodup_cons.mp this).1
  have hS : SF F T a := .inr ⟨i, ha⟩
  have vis : Ex (hid (SF F T) H) (hid (SF F T) (upd H a (.lst vs'))) := fun x o h => by
    obtain ⟨c, h⟩ := hid_some h
    rw [hid_out c, upd_ne (fun z => c (by rw [z]; exact hS))]
    exact h
  have ne : ∀ x, x ≠ a → upd H a (.lst vs') x = H x := fun x h => upd_ne h
  refine ⟨⟨by rw [List.length_set]; exact st.len, fun x h => ?_, st.off, st.dis, st.nd, fun j hj => st.out j (by rw [List.length_set] at hj; exact hj), fun j q hq => ?_, st.pin⟩, ⟨fun x h => ne x fun z => st.off i a ha (by rw [← z]; exact h), vis⟩⟩
  · rw [ne x fun z => st.off i a ha (by rw [← z]; exact h)]
    exact st.al x h
  · by_cases c : i = j
    · subst c
      have hl : i < ρ.length := by
        have := (List.getElem?_eq_some_iff.mp hq).1
        simpa using this
      rw [List.getElem?_set_self hl] at hq
      cases hq
      exact ⟨_, hσ, .ref a, rfl, a, vs', B, rfl, upd_same, hc.mv vis fun x hx => ne x fun z => hab (by rw [← z]; exact hx), hT⟩
    · rw [List.getElem?_set_ne c] at hq
      obtain ⟨o', h1, h2⟩ := st.sl j q hq
      exact ⟨o', h1, h2.mv vis fun x hx => ne x fun z => c (st.dis i j a ha (by rw [← z]; exact hx))⟩
theorem StOk.at_own (st : StOk pn F T H σ ρ) {i : Nat} {cs : List Cel} (hi : ρ[i]? = some (.own cs)) : ∃ a vs B, σ[i]? = some (some (.ref a)) ∧ H a = some (.lst vs) ∧ Cels (hid (SF F T) H) H vs cs B ∧ T i = a :: B := by
  obtain ⟨o, h1, v, rfl, a, vs, B, rfl, h2, h3, h4⟩ := st.sl i _ hi
  exact ⟨a, vs, B, h1, h2, h3, h4⟩
end
mutual
def flat : PD → Bool
  | .none => true
  | .bool _ => true
  | .int _ => true
  | .str _ => true
  | .tuple ds => flats ds
  | .list _ => false
  | .dict _ => false
def flats : List PD → Bool
  | [] => true
  | d :: ds => flat d && flats ds
end
mutual
theorem Rp.flat {G G' : Hp} (e : ∀ x o u, G x = some (.frz o u) → G' x = some (.frz o u)) : ∀ {v : V} {d : PD}, Rp G v d → flat d = true → Rp G' v d
  | _, _, .non, _ => .non
  | _, _, .bl b, _ => .bl b
  | _, _, .int i, _ => .int i
  | _, _, .str x, _ => .str x
  | _, _, .lst h r, f => by simp [Uv.flat] at f
  | _, _, .tup h p r, f => .tup (e _ _ _ h) p (RpAll.flat e r (by simpa [Uv.flat] using f))
  | _, _, .dct _ _ _ _, f => by simp [Uv.flat] at f
  | _, _, .dci _ _ _, f => by simp [Uv.flat] at f
  | _, _, .scr h r, f => by simp [Uv.flat] at f
  | _, _, .exo _ _ _ _, f => by simp [Uv.flat] at f
  | _, _, .«fun» _, f => by simp [Uv.flat] at f
  | _, _, .hal _ _ _ _ _, f => by simp [Uv.flat] at f
theorem RpAll.flat {G G' : Hp} (e : ∀ x o u, G x = some (.frz o u) → G' x = some (.frz o u)) : ∀ {vs : List V} {ds : List PD}, RpAll G vs ds → flats ds = true → RpAll G' vs ds
  | _, _, .nil, _ => .nil
  | _, _, .cons h r, f => by
    simp only [flats, Bool.and_eq_true] at f
    exact .cons (Rp.flat e h f.1) (RpAll.flat e r f.2)
end
theorem StOk.frz {pn : Pn} {F : Hs} {T : Trs} {H H' : Hp} {σ : L2.St} {ρ : Env} (st : StOk pn F T H σ ρ) (e : Ex H H') : ∀ x o u, hid F H' x = some (.frz o u) → hid (SF F T) H' x = some (.frz o u) := fun x o u h => by
  obtain ⟨c, h⟩ := hid_some h
  rw [hid_out]
  · exact h
  · rintro (z | ⟨i, z⟩)
    · exact c z
    · obtain ⟨vs, q, n⟩ := st.lst z
      rw [e x _ q] at h
      exact n _ _ (Option.some.inj h)
end Uv

namespace Uv
open PySem PySem.Spec PyProof.Rows L2
open Evl (Ex)
variable [kk : KK]
abbrev XW := Env → Option (PD × Env)
abbrev XWT := Env → Option (Bool × Env)
abbrev XWA := Env → Option (List PD × Env)
abbrev XWO := Env → Option (List Cel × Env)
def SW (te : TE) (w : XW) : Prop := ∀ pn F T H σ ρ d ρ', StOk pn F T H σ ρ → w ρ = some (d, ρ') → ∀ Q : VK, (∀ v T' H', StOk pn F T' H' σ ρ' → Stp F T H T' H' → Rp (hid (SF F T') H') v d → Q v H') → te σ H Q
def SWT (tt : TT) (w : XWT) : Prop := ∀ pn F T H σ ρ b ρ', StOk pn F T H σ ρ → w ρ = some (b, ρ') → ∀ Q : Bool → Hp → Prop, (∀ T' H', StOk pn F T' H' σ ρ' → Stp F T H T' H' → Q b H') → tt σ H Q
def SWA (ta : TA) (w : XWA) : Prop := ∀ pn F T H σ ρ ds ρ', StOk pn F T H σ ρ → w ρ = some (ds, ρ') → ∀ Q : List V → Hp → Prop, (∀ vs T' H', StOk pn F T' H' σ ρ' → Stp F T H T' H' → RpAll (hid (SF F T') H') vs ds → Q vs H') → ta σ H Q
def SWO (te : TE) (w : XWO) : Prop := ∀ pn F T H σ ρ cs ρ', StOk pn F T H σ ρ → w ρ = some (cs, ρ') → ∀ Q : VK, (∀ v A T' H', StOk pn (FL F A) T' H' σ ρ' → A.Nodup → (∀ x ∈ A, ¬ F x) → (∀ x, F x → H' x = H x) → Ex (hid (SF F T) H) (hid (SF (FL F A) T') H') → Own (hid (SF (FL F A) T') H') H' v cs A → Q v H') → te σ H Q
def wM (x : XE) : XW := fun ρ => (x (mk ρ)).bind fun d => some (d, ρ)
def wV (x : XE) : XW := fun ρ => (x (vw ρ)).bind fun d => if flat d = true then some (d, ρ) else none
def wMT (x : XT) : XWT := fun ρ => (x (mk ρ)).bind fun d => some (d, ρ)
def wVT (x : XT) : XWT := fun ρ => (x (vw ρ)).bind fun d => some (d, ρ)
def wNil : XWA := fun ρ => some ([], ρ)
def wCons (a : XW) (as : XWA) : XWA := fun ρ => (a ρ).bind fun x => (as x.2).bind fun xs => some (x.1 :: xs.1, xs.2)
def wOp (f : PD → PD → Option PD) (a b : XW) : XW := fun ρ => (a ρ).bind fun x => (b x.2).bind fun y => (f x.1 y.1).bind fun z => some (z, y.2)
def wTup (as : XWA) : XW := fun ρ => (as ρ).bind fun x => if x.1.length ≤ 100000 then some (.tuple x.1, x.2) else none
def wLst (as : XWA) : XW := fun ρ => (as ρ).bind fun x => if x.1.length ≤ 100000 then some (.list x.1, x.2) else none
def wCB (f : List PD → Option PD) (as : XWA) : XW := fun ρ => (as ρ).bind fun x => (f x.1).bind fun z => some (z, x.2)
def wB (a : XW) : XWT := fun ρ => (a ρ).bind fun x => (isB x.1).bind fun b => some (b, x.2)
def wTNot (a : XWT) : XWT := fun ρ => (a ρ).bind fun c => some (!c.1, c.2)
section
variable {ta tb te : TE} {t u : TT} {ts : TA} {a b w : XW} {p q : XWT} {as : XWA} {r : R2} {f : PD → PD → Option PD} {x : XE}
theorem sw_M (h : SE te x) : SW te (wM x) := fun pn F T H σ ρ d ρ' st e Q q => by
  obtain ⟨z, h1, h2⟩ := bind_some e
  cases h2
  exact h _ _ h1 (SF F T) σ H st.als st.mkd Q fun v H2 e2 rv => q v T H2 (st.ex e2) (Stp.ex st.al e2) rv
theorem sw_V (h : SE te x) : SW te (wV x) := fun pn F T H σ ρ d ρ' st e Q q => by
  obtain ⟨z, h1, h2⟩ := bind_some e
  by_cases c : flat z = true
  · rw [if_pos c] at h2
    cases h2
    exact h _ _ h1 F σ H st.al st.vw Q fun v H2 e2 rv => q v T H2 (st.ex e2) (Stp.ex st.al e2) (rv.flat (st.frz e2) c)
  · rw [if_neg c] at h2; cases h2
theorem swt_M {x : XT} (h : ST t x) : SWT t (wMT x) := fun pn F T H σ ρ d ρ' st e Q q => by
  obtain ⟨z, h1, h2⟩ := bind_some e
  cases h2
  exact h _ _ h1 (SF F T) σ H st.als st.mkd Q fun H2 e2 => q T H2 (st.ex e2) (Stp.ex st.al e2)
theorem swt_V {x : XT} (h : ST t x) : SWT t (wVT x) := fun pn F T H σ ρ d ρ' st e Q q => by
  obtain ⟨z, h1, h2⟩ := bind_some e
  cases h2
  exact h _ _ h1 F σ H st.al st.vw Q fun H2 e2 => q T H2 (st.ex e2) (Stp.ex st.al e2)
theorem swa_nil : SWA tNil wNil := fun pn F T H σ ρ d ρ' st e Q q => by cases e; exact q [] T H st Stp.refl .nil
theorem swa_cons (ha : SW ta a) (hs : SWA ts as) : SWA (tCons ta ts) (wCons a as) := fun pn F T H σ ρ d ρ' st e Q q => by
  obtain ⟨⟨x, ρ1⟩, h1, e⟩ := bind_some e
  obtain ⟨⟨xs, ρ2⟩, h2, e⟩ := bind_some e
  cases e
  exact ha pn F T H σ ρ x ρ1 st h1 _ fun v T1 H1 st1 s1 rv => hs pn F T1 H1 σ ρ1 xs ρ2 st1 h2 _ fun vs T2 H2 st2 s2 rs => q (v :: vs) T2 H2 st2 (s1.trans s2) (.cons (rv.ex s2.vis) rs)
theorem sw_op (hr : SO r f) (ha : SW ta a) (hb : SW tb b) : SW (tOp r ta tb) (wOp f a b) := fun pn F T H σ ρ d ρ' st e Q q => by
  obtain ⟨⟨x, ρ1⟩, h1, e⟩ := bind_some e
  obtain ⟨⟨y, ρ2⟩, h2, e⟩ := bind_some e
  obtain ⟨z, h3, e⟩ := bind_some e
  cases e
  exact ha pn F T H σ ρ x ρ1 st h1 _ fun v T1 H1 st1 s1 rv => hb pn F T1 H1 σ ρ1 y ρ2 st1 h2 _ fun w T2 H2 st2 s2 rw' =>
    hr x y d h3 (SF F T2) H2 v w st2.als (rv.ex s2.vis) rw' Q fun z H3 e3 rz => q z T2 H3 (st2.ex e3) ((s1.trans s2).trans (Stp.ex st2.al e3)) rz
theorem sw_tup (hs : SWA ts as) : SW (tTupF ts) (wTup as) := fun pn F T H σ ρ d ρ' st e Q q => by
  obtain ⟨⟨xs, ρ1⟩, h1, e⟩ := bind_some e
  by_cases hl : xs.length ≤ 100000
  · rw [if_pos hl] at e
    cases e
    exact hs pn F T H σ ρ xs _ st h1 _ fun vs T1 H1 st1 s1 rv => ⟨by rw [rv.length]; exact Evl.sz_of hl, fun p o hp pl => q _ T1 _ (st1.ex (Ex.new hp)) (s1.trans (Stp.ex st1.al (Ex.new hp))) (.tup (new_ok st1.als hp) pl (rv.ex (hid_ex (Ex.new hp))))⟩
  · rw [if_neg hl] at e; cases e
theorem sw_lst (hs : SWA ts as) : SW (tLst ts) (wLst as) := fun pn F T H σ ρ d ρ' st e Q q => by
  obtain ⟨⟨xs, ρ1⟩, h1, e⟩ := bind_some e
  by_cases hl : xs.length ≤ 100000
  · rw [if_pos hl] at e
    cases e
    exact hs pn F T H σ ρ xs _ st h1 _ fun vs T1 H1 st1 s1 rv => ⟨by rw [rv.length]; exact Evl.sz_of hl, fun p hp => q _ T1 _ (st1.ex (Ex.new hp)) (s1.trans (Stp.ex st1.al (Ex.new hp))) (.lst (new_ok st1.als hp) (rv.ex (hid_ex (Ex.new hp))))⟩
  · rw [if_neg hl] at e; cases e
theorem wB_some {ρ ρ' : Env} {c : Bool} (h : wB a ρ = some (c, ρ')) : a ρ = some (.bool c, ρ') := by
  obtain ⟨⟨x, ρ1⟩, h1, e⟩ := bind_some h
  obtain ⟨b, h2, e⟩ := bind_some e
  have z := isB_eq h2
  cases e
  subst z
  exact h1
theorem swt_B (ha : SW ta a) : SWT (tB ta) (wB a) := fun pn F T H σ ρ c ρ' st e Q q =>
  ha pn F T H σ ρ _ ρ' st (wB_some e) _ fun v T1 H1 st1 s1 rv => by cases rv; exact ⟨c, rfl, q T1 H1 st1 s1⟩
theorem swt_test (ha : SW ta a) : SWT (tTest ta) (wB a) := fun pn F T H σ ρ c ρ' st e Q q =>
  ha pn F T H σ ρ _ ρ' st (wB_some e) _ fun v T1 H1 st1 s1 rv => by cases rv; exact ⟨c, rfl, q T1 H1 st1 s1⟩
theorem swt_not (ht : SWT t p) : SWT (tNot t) (wTNot p) := fun pn F T H σ ρ c ρ' st e Q q => by
  obtain ⟨⟨c, ρ1⟩, h1, e⟩ := bind_some e
  cases e
  exact ht pn F T H σ ρ c _ st h1 _ fun T1 H1 st1 s1 => q T1 H1 st1 s1
end
def spF (f : List PD → Option PD) : Sp := fun vs H Q _ => ∃ S ds d, Al S H ∧ RpAll (hid S H) vs ds ∧ f ds = some d ∧ ∀ v H2, Ex H H2 → Rp (hid S H2) v d → Q v H2
theorem se_call {f : List PD → Option PD} {ts : TA} {as : XA} (hs : SA ts as) : SE (tCall (spF f) [] E0 ts) (xCB f as) := fun ρ d h S σ H al en Q q => by
  obtain ⟨ds, h1, h⟩ := bind_some h
  exact hs ρ ds h1 S σ H al en _ fun vs H1 e1 rv => ⟨S, ds, d, al.ex e1, by rw [List.append_nil]; exact rv, h, fun v H2 e2 r2 => q v H2 (e1.trans e2) r2⟩
theorem sw_call {f : List PD → Option PD} {ts : TA} {as : XWA} (hs : SWA ts as) : SW (tCall (spF f) [] E0 ts) (wCB f as) := fun pn F T H σ ρ d ρ' st e Q q => by
  obtain ⟨⟨xs, ρ1⟩, h1, e⟩ := bind_some e
  obtain ⟨z, h3, e⟩ := bind_some e
  cases e
  exact hs pn F T H σ ρ xs _ st h1 _ fun vs T1 H1 st1 s1 rv => ⟨SF F T1, xs, d, st1.als, by rw [List.append_nil]; exact rv, h3, fun v H2 e2 r2 => q v T1 H2 (st1.ex e2) (s1.trans (Stp.ex st1.al e2)) r2⟩
def spW (g : List Cel → List PD → Option (PD × List Cel)) : Sp := fun vs H Q _ => ∃ (F : Hs) (a : Addr) (B : List Addr) (cs : List Cel) (ws : List V) (ds : List PD) (d : PD) (cs' : List Cel), vs = .ref a :: ws ∧ Al F H ∧ (∀ x ∈ a :: B, ¬ F x) ∧ (a :: B).Nodup ∧
  Own (hid (FL F (a :: B)) H) H (.ref a) cs (a :: B) ∧ RpAll (hid (FL F (a :: B)) H) ws ds ∧ g cs ds = some (d, cs') ∧
  ∀ v B' H', (∀ x, F x → H' x = H x) → Ex (hid (FL F (a :: B)) H) (hid (FL F (a :: B')) H') → (∀ x ∈ a :: B', ¬ F x) → (a :: B').Nodup → Own (hid (FL F (a :: B')) H') H' (.ref a) cs' (a :: B') → Rp (hid (FL F (a :: B')) H') v d → Q v H'
def ownAt (ρ : Env) (i : Nat) : Option (List Cel) := match ρ[i]? with
  | some (.own cs) => some cs
  | _ => none
theorem ownAt_eq {ρ : Env} {i : Nat} {cs : List Cel} (h : ownAt ρ i = some cs) : ρ[i]? = some (.own cs) := by
  unfold ownAt at h
  split at h
  · rename_i e
    cases h
    exact e
  · cases h
def wCallK (i : Nat) (g : List Cel → List PD → Option (PD × List Cel)) (as : XWA) : XW := fun ρ => (ownAt ρ i).bind fun _ => (as ρ).bind fun x => (ownAt x.2 i).bind fun cs => (g cs x.1).bind fun y => some (y.1, x.2.set i (.own y.2))
theorem sw_callK {i : Nat} {g : List Cel → List PD → Option (PD × List Cel)} {ts : TA} {as : XWA} (hs : SWA ts as) : SW (tCall (spW g) [] E0 (tCons (tVar i) ts)) (wCallK i g as) := fun pn F T H σ ρ d ρ' st e Q q => by
  obtain ⟨cs0, h0, e⟩ := bind_some e
  obtain ⟨⟨xs, ρ1⟩, h1, e⟩ := bind_some e
  obtain ⟨cs, hi, e⟩ := bind_some e
  obtain ⟨⟨z, cs'⟩, h3, e⟩ := bind_some e
  have hi : ρ1[i]? = some (.own cs) := ownAt_eq hi
  have e : some (z, ρ1.set i (.own cs')) = some (d, ρ') := e
  obtain ⟨rfl, rfl⟩ := Prod.mk.inj (Option.some.inj e)
  -- the slot holds the same address all along
  have key : ∀ (vs : List V) (T1 : Trs) (H1 : Hp), StOk pn F T1 H1 σ ρ1 → Stp F T H T1 H1 → RpAll (hid (SF F T1) H1) vs xs → ∀ a : Addr, σ[i]? = some (some (.ref a)) → spW g (.ref a :: vs) H1 Q E0 := by
    intro vs T1 H1 st1 s1 rv a ha
    obtain ⟨a', us, B, ha', hl, hc, hT⟩ := st1.at_own hi
    have ea : a' = a := by rw [ha'] at ha; cases ha; rfl
    subst ea
    obtain ⟨F1, hF1⟩ : ∃ F1 : Hs, F1 = fun x => F x ∨ ∃ j, j ≠ i ∧ x ∈ T1 j := ⟨_, rfl⟩
    have eqv : ∀ x, FL F1 (a' :: B) x ↔ SF F T1 x := fun x => by
      rw [hF1]
      constructor
      · rintro ((h | ⟨j, _, h⟩) | h)
        · exact .inl h
        · exact .inr ⟨j, h⟩
        · exact .inr ⟨i, by rw [hT]; exact h⟩
      · rintro (h | ⟨j, h⟩)
        · exact .inl (.inl h)
        · by_cases c : j = i
          · subst c; rw [hT] at h; exact .inr h
          · exact .inl (.inr ⟨j, c, h⟩)
    have eh : hid (FL F1 (a' :: B)) H1 = hid (SF F T1) H1 := hid_eq eqv
    refine ⟨F1, a', B, cs, vs, xs, z, cs', rfl, ?_, ?_, by rw [← hT]; exact st1.nd i, ⟨a', us, B, rfl, hl, by rw [eh]; exact hc, rfl⟩, by rw [eh]; exact rv, h3, fun v B' H' fr vis off nd ow rv' => ?_⟩
    · intro x hx
      rw [hF1] at hx
      exact st1.als x (hx.elim .inl fun ⟨j, _, h⟩ => .inr ⟨j, h⟩)
    · intro x hx hx2
      rw [hF1] at hx2
      have hx3 : x ∈ T1 i := by rw [hT]; exact hx
      rcases hx2 with h | ⟨j, c, h⟩
      · exact st1.off i x hx3 h
      · exact c (st1.dis j i x h hx3)
    · have eqv' : ∀ x, FL F1 (a' :: B') x ↔ SF F (setT T1 i (a' :: B')) x := fun x => by
        rw [hF1]
        constructor
        · rintro ((h | ⟨j, c, h⟩) | h)
          · exact .inl h
          · exact .inr ⟨j, by rw [setT_ne c]; exact h⟩
          · exact .inr ⟨i, by rw [setT_same]; exact h⟩
        · rintro (h | ⟨j, h⟩)
          · exact .inl (.inl h)
          · by_cases c : j = i
            · subst c; rw [setT_same] at h; exact .inr h
            · rw [setT_ne c] at h; exact .inl (.inr ⟨j, c, h⟩)
      have eh' : hid (FL F1 (a' :: B')) H' = hid (SF F (setT T1 i (a' :: B'))) H' := hid_eq eqv'
      rw [eh, eh'] at vis
      rw [eh'] at ow rv'
      have il : i < ρ1.length := (List.getElem?_eq_some_iff.mp hi).1
      refine q v (setT T1 i (a' :: B')) H' ⟨by rw [List.length_set]; exact st1.len, fun x hx => ?_, fun j x h => ?_, fun j k x h h' => ?_, fun j => ?_, fun j hj => ?_, fun j s hs => ?_, st1.pin⟩ (s1.trans ⟨fun x hx => fr x (by rw [hF1]; exact .inl hx), vis⟩) rv'
      · rw [fr x (by rw [hF1]; exact .inl hx)]
        exact st1.al x hx
      · by_cases c : j = i
        · subst c
          rw [setT_same] at h
          exact fun z => off x h (by rw [hF1]; exact .inl z)
        · rw [setT_ne c] at h
          exact st1.off j x h
      · by_cases c : j = i
        · subst c
          rw [setT_same] at h
          by_cases c2 : k = j
          · exact c2.symm
          · rw [setT_ne c2] at h'
            exact absurd (show F1 x by rw [hF1]; exact .inr ⟨k, c2, h'⟩) (off x h)
        · rw [setT_ne c] at h
          by_cases c2 : k = i
          · subst c2
            rw [setT_same] at h'
            exact absurd (show F1 x by rw [hF1]; exact .inr ⟨j, c, h⟩) (off x h')
          · rw [setT_ne c2] at h'
            exact st1.dis j k x h h'
      · by_cases c : j = i
        · subst c; rw [setT_same]; exact nd
        · rw [setT_ne c]; exact st1.nd j
      · rw [List.length_set] at hj
        rw [setT_ne (by omega)]
        exact st1.out j hj
      · by_cases c : i = j
        · subst c
          rw [List.getElem?_set_self il] at hs
          cases hs
          rw [setT_same]
          exact ⟨_, ha', _, rfl, ow⟩
        · rw [List.getElem?_set_ne c] at hs
          obtain ⟨o, h1, h2⟩ := st1.sl j s hs
          rw [setT_ne (fun z => c z.symm)]
          exact ⟨o, h1, h2.mv vis fun x hx => fr x (by rw [hF1]; exact .inr ⟨j, fun z => c z.symm, hx⟩)⟩
  obtain ⟨a, _, _, ha, _⟩ := st.at_own (ownAt_eq h0)
  refine ⟨.ref a, ha, hs pn F T H σ ρ xs ρ1 st h1 _ fun vs T1 H1 st1 s1 rv => ?_⟩
  show spW g (V.ref a :: vs ++ []) H1 Q E0
  rw [List.append_nil]
  exact key vs T1 H1 st1 s1 rv a ha
end Uv

namespace Uv
open PySem PySem.Spec PyProof.Rows L2
open Evl (Ex)
variable [kk : KK]
def Loose (H : Hp) (v : V) (x : PD) : Prop := ∃ a xs ds, v = .ref a ∧ H a = some (.tup xs) ∧ RpAll H xs ds ∧ x = .tuple ds
def Rk (b : Bool) (H : Hp) (v : V) (x : PD) : Prop := Rp H v x ∨ (b = true ∧ Loose H v x)
def Wk (b : Bool) (S : Hs) (J : It) (xs : List PD) (H : Hp) : Prop := ∀ S' H2, Ex (hid S H) (hid S' H2) → Al S' H2 → J.stop xs.length H2 ∧ ∀ i x, xs[i]? = some x → J.go i H2 ∧ ∀ v H3, J.yld i H2 v H3 → Ex H2 H3 ∧ Rk b (hid S' H3) v x
def pairsD (xs : List PD) : List PD := xs.zipIdx.map fun p => .tuple [.int (p.2 : Nat), p.1]
section
variable {S : Hs} {H : Hp}
theorem wk_tup {a : Addr} {o : Obj} {vs : List V} {xs : List PD} (ha : hid S H a = some (fz o vs)) (ra : RpAll (hid S H) vs xs) : Wk false S (Itt K a) xs H := fun S' H2 e2 al2 => by
  have sq : SqT K H2 a vs := .inl (.inr ⟨_, hid_le _ _ (e2 _ _ ha)⟩)
  have ra2 := ra.ex e2
  refine ⟨⟨_, sq, Nat.le_of_eq ra2.length⟩, fun i x hx => ?_⟩
  obtain ⟨v, hv, rv⟩ := ra2.get hx
  refine ⟨⟨_, v, sq, hv⟩, fun w H3 y => ?_⟩
  obtain ⟨y1, y2⟩ := y
  have e := y2 _ sq
  rw [hv] at e
  cases e
  subst y1
  exact ⟨Ex.refl _, .inl rv⟩
theorem wk_lst {a : Addr} {vs : List V} {xs : List PD} (ha : hid S H a = some (.lst vs)) (ra : RpAll (hid S H) vs xs) : Wk false S (Itl K a) xs H := fun S' H2 e2 al2 => by
  have sq : SqL K H2 a vs := .inl (.inl (hid_le _ _ (e2 _ _ ha)))
  have ra2 := ra.ex e2
  refine ⟨⟨_, sq, Nat.le_of_eq ra2.length⟩, fun i x hx => ?_⟩
  obtain ⟨v, hv, rv⟩ := ra2.get hx
  refine ⟨⟨_, v, sq, hv⟩, fun w H3 y => ?_⟩
  obtain ⟨y1, y2⟩ := y
  have e := y2 _ sq
  rw [hv] at e
  cases e
  subst y1
  exact ⟨Ex.refl _, .inl rv⟩
theorem wk_scr {a : Addr} {vs : List V} {xs : List PD} (ha : SqL K (hid S H) a vs) (ra : RpAll (hid S H) vs xs) : Wk false S (Itl K a) xs H := fun S' H2 e2 al2 => by
  have sq : SqL K H2 a vs := sqx hid_le (sqx e2 ha)
  have ra2 := ra.ex e2
  refine ⟨⟨_, sq, Nat.le_of_eq ra2.length⟩, fun i x hx => ?_⟩
  obtain ⟨v, hv, rv⟩ := ra2.get hx
  refine ⟨⟨_, v, sq, hv⟩, fun w H3 y => ?_⟩
  obtain ⟨y1, y2⟩ := y
  have e := y2 _ sq
  rw [hv] at e
  cases e
  subst y1
  exact ⟨Ex.refl _, .inl rv⟩
theorem wk_rng {lo : Int} {n : Nat} : Wk false S (Itr lo n) ((List.range n).map fun k => .int (lo + (k : Nat))) H := fun S' H2 e2 al2 => by
  refine ⟨by show n ≤ _; simp, fun i x hx => ?_⟩
  rw [List.getElem?_map] at hx
  cases qq : (List.range n)[i]? with
  | none => rw [qq] at hx; cases hx
  | some k =>
    rw [qq] at hx
    obtain ⟨hi, ek⟩ := List.getElem?_eq_some_iff.mp qq
    have ek2 : i = k := by simpa using ek
    subst ek2
    cases hx
    refine ⟨by show i < n; simpa using hi, fun v H3 y => ?_⟩
    obtain ⟨y1, y2⟩ := y
    subst y1 y2
    exact ⟨Ex.refl _, .inl (.int _)⟩
theorem pairs_get {xs : List PD} {i : Nat} {x : PD} (hx : (pairsD xs)[i]? = some x) : ∃ y, xs[i]? = some y ∧ x = .tuple [.int (i : Nat), y] := by
  unfold pairsD at hx
  rw [List.getElem?_map, List.getElem?_zipIdx] at hx
  cases q : xs[i]? with
  | none => rw [q] at hx; simp at hx
  | some y =>
    rw [q] at hx
    refine ⟨y, rfl, ?_⟩
    simp at hx
    exact hx.symm
theorem loose2 {S' : Hs} {H2 : Hp} {T : Addr} {u v : V} {x y : PD} (al : Al S' H2) (hT : H2 T = none) (ru : Rp (hid S' H2) u x) (rv : Rp (hid S' H2) v y) : Ex H2 (upd H2 T (.tup [u, v])) ∧ Rk true (hid S' (upd H2 T (.tup [u, v]))) (.ref T) (.tuple [x, y]) :=
  ⟨Ex.new hT, .inr ⟨rfl, T, _, _, rfl, new_ok al hT, .cons (ru.ex (hid_ex (Ex.new hT))) (.cons (rv.ex (hid_ex (Ex.new hT))) .nil), rfl⟩⟩
theorem wk_enumT {a : Addr} {o : Obj} {vs : List V} {xs : List PD} (ha : hid S H a = some (fz o vs)) (ra : RpAll (hid S H) vs xs) : Wk true S (Un.IteT K a) (pairsD xs) H := fun S' H2 e2 al2 => by
  have sq : SqT K H2 a vs := .inl (.inr ⟨_, hid_le _ _ (e2 _ _ ha)⟩)
  have ra2 := ra.ex e2
  refine ⟨⟨_, sq, by rw [ra2.length]; simp [pairsD]⟩, fun i x hx => ?_⟩
  obtain ⟨y, hy, rfl⟩ := pairs_get hx
  obtain ⟨v, hv, rv⟩ := ra2.get hy
  refine ⟨⟨_, v, sq, hv⟩, fun w H3 yl => ?_⟩
  obtain ⟨T, z, rfl, e2, rfl, e4⟩ := yl
  have ez := e4 _ sq
  rw [hv] at ez
  cases ez
  exact loose2 al2 e2 (.int _) rv
theorem wk_enumL {a : Addr} {vs : List V} {xs : List PD} (ha : hid S H a = some (.lst vs)) (ra : RpAll (hid S H) vs xs) : Wk true S (Ite K a) (pairsD xs) H := fun S' H2 e2 al2 => by
  have sq : SqL K H2 a vs := .inl (.inl (hid_le _ _ (e2 _ _ ha)))
  have ra2 := ra.ex e2
  refine ⟨⟨_, sq, by rw [ra2.length]; simp [pairsD]⟩, fun i x hx => ?_⟩
  obtain ⟨y, hy, rfl⟩ := pairs_get hx
  obtain ⟨v, hv, rv⟩ := ra2.get hy
  refine ⟨⟨_, v, sq, hv⟩, fun w H3 yl => ?_⟩
  obtain ⟨T, z, rfl, e2, rfl, e4⟩ := yl
  have ez := e4 _ sq
  rw [hv] at ez
  cases ez
  exact loose2 al2 e2 (.int _) rv
end
def iSeq (K : PySem.W.Frag) (te : TE) : TI := fun σ H R => iList K te σ H R ∨ iTup K te σ H R
def iEnumU (K : PySem.W.Frag) (ta : TA) : TI := fun σ H R => iEnum K ta σ H R ∨ Un.iEnumT K ta σ H R
def seqP : PD → Option (List PD)
  | .list ds => some ds
  | .tuple ds => some ds
  | .dict [(.none, .list ds)] => some ds
  | _ => none
def rngP : List PD → Option (List PD)
  | [.int n] => if -(2 ^ 62) ≤ n ∧ n < 2 ^ 62 then some ((List.range n.toNat).map fun k => .int (0 + (k : Nat))) else none
  | _ => none
def rng2P : List PD → Option (List PD)
  | [.int i, .int j] => if -(2 ^ 62) ≤ i ∧ i < 2 ^ 62 ∧ -(2 ^ 62) ≤ j ∧ j < 2 ^ 62 then some ((List.range (j - i).toNat).map fun k => .int (i + (k : Nat))) else none
  | _ => none
def enumP : List PD → Option (List PD)
  | [.list ds] => some (pairsD ds)
  | [.tuple ds] => some (pairsD ds)
  | _ => none
abbrev XI := VE → Option (List PD)
def Es (b : Bool) (wi : TI) (ρ : VE) (xs : List PD) : Prop := ∀ S σ H, Al S H → En (hid S H) σ ρ → ∀ R : It → Hp → Prop, (∀ J H1, Ex H H1 → Wk b S J xs H1 → R J H1) → wi σ H R
def SI (b : Bool) (wi : TI) (x : XI) : Prop := ∀ ρ xs, x ρ = some xs → Es b wi ρ xs
abbrev XWI := Env → Option (List PD × Env)
def SWI (b : Bool) (wi : TI) (w : XWI) : Prop := ∀ pn F T H σ ρ xs ρ', StOk pn F T H σ ρ → w ρ = some (xs, ρ') → ∀ R : It → Hp → Prop, (∀ J T' H', StOk pn F T' H' σ ρ' → Stp F T H T' H' → Wk b (SF F T') J xs H' → R J H') → wi σ H R
def xiE (a : XE) : XI := fun ρ => (a ρ).bind seqP
def xiA (f : List PD → Option (List PD)) (as : XA) : XI := fun ρ => (as ρ).bind f
def wiE (a : XW) : XWI := fun ρ => (a ρ).bind fun x => (seqP x.1).bind fun xs => some (xs, x.2)
def wiA (f : List PD → Option (List PD)) (as : XWA) : XWI := fun ρ => (as ρ).bind fun x => (f x.1).bind fun xs => some (xs, x.2)
section
variable {te : TE} {ts : TA}
theorem core_rng {S : Hs} {vs : List V} {H1 : Hp} {ds xs : List PD} (h : rngP ds = some xs) (rv : RpAll (hid S H1) vs ds) : ∃ j : Int, vs = [.int j] ∧ -(2 ^ 62) ≤ j ∧ j < 2 ^ 62 ∧ Wk false S (Itr 0 j.toNat) xs H1 := by
  unfold rngP at h
  split at h
  · rename_i n
    by_cases c : -(2 ^ 62) ≤ n ∧ n < 2 ^ 62
    · rw [if_pos c] at h
      cases h
      cases rv with
      | cons h1 t =>
        cases t
        cases h1
        exact ⟨n, rfl, c.1, c.2, wk_rng⟩
    · rw [if_neg c] at h; cases h
  · cases h
theorem core_rng2 {S : Hs} {vs : List V} {H1 : Hp} {ds xs : List PD} (h : rng2P ds = some xs) (rv : RpAll (hid S H1) vs ds) : ∃ i j : Int, vs = [.int i, .int j] ∧ (-(2 ^ 62) ≤ i ∧ i < 2 ^ 62 ∧ -(2 ^ 62) ≤ j ∧ j < 2 ^ 62) ∧ Wk false S (Itr i (j - i).toNat) xs H1 := by
  unfold rng2P at h
  split at h
  · rename_i n m
    by_cases c : -(2 ^ 62) ≤ n ∧ n < 2 ^ 62 ∧ -(2 ^ 62) ≤ m ∧ m < 2 ^ 62
    · rw [if_pos c] at h
      cases h
      cases rv with
      | cons h1 t =>
        cases t with
        | cons h2 t =>
          cases t
          cases h1; cases h2
          exact ⟨n, m, rfl, c, wk_rng⟩
    · rw [if_neg c] at h; cases h
  · cases h
theorem si_seq {a : XE} (ha : SE te a) : SI false (iSeq K te) (xiE a) := fun ρ xs h S σ H al en R q => by
  obtain ⟨d, h1, h⟩ := bind_some h
  cases d with
  | list ds =>
    cases h
    refine .inl (ha ρ _ h1 S σ H al en _ fun v H1 e1 rv => ?_)
    cases rv with
    | lst hx ra => exact ⟨_, rfl, ⟨_, .inl (.inl (hid_le _ _ hx))⟩, q _ H1 e1 (wk_lst hx ra)⟩
  | tuple ds =>
    cases h
    refine .inr (ha ρ _ h1 S σ H al en _ fun v H1 e1 rv => ?_)
    cases rv with
    | tup hx _ ra => exact ⟨_, rfl, ⟨_, .inl (.inr ⟨_, hid_le _ _ hx⟩)⟩, q _ H1 e1 (wk_tup hx ra)⟩
  | dict kvs =>
    refine .inl (ha ρ _ h1 S σ H al en _ fun v H1 e1 rv => ?_)
    cases rv with
    | dct _ _ hp _ => rcases zip_str hp with e | ⟨k, d, r, e⟩ <;> (subst e; cases h)
    | dci _ _ _ => cases h
    | exo _ _ _ _ => cases h
    | «fun» _ => cases h
    | hal _ _ _ _ _ => cases h
    | scr hs ra => cases h; exact ⟨_, rfl, ⟨_, sqx hid_le hs⟩, q _ H1 e1 (wk_scr hs ra)⟩
  | _ => cases h
theorem si_rng {as : XA} (hs : SA ts as) : SI false (iRng1 ts) (xiA rngP as) := fun ρ xs h S σ H al en R q => by
  obtain ⟨ds, h1, h⟩ := bind_some h
  refine hs ρ ds h1 S σ H al en _ fun vs H1 e1 rv => ?_
  obtain ⟨j, h2, h3, h4, w⟩ := core_rng h rv
  exact ⟨j, h2, h3, h4, q _ H1 e1 w⟩
theorem enum_l {ds xs : List PD} (h : enumP ds = some xs) : (∃ l, ds = [.list l]) ∨ ∃ l, ds = [.tuple l] := by
  unfold enumP at h
  split at h
  · exact .inl ⟨_, rfl⟩
  · exact .inr ⟨_, rfl⟩
  · cases h
theorem si_enum {as : XA} (hs : SA ts as) : SI true (iEnumU K ts) (xiA enumP as) := fun ρ xs h S σ H al en R q => by
  obtain ⟨ds, h1, h⟩ := bind_some h
  rcases enum_l h with ⟨l, rfl⟩ | ⟨l, rfl⟩
  · refine .inl (hs ρ _ h1 S σ H al en _ fun vs H1 e1 rv => ?_)
    cases h
    cases rv with
    | cons g1 t =>
      cases t
      cases g1 with
      | lst ha ra => exact ⟨_, _, rfl, .inl (.inl (hid_le _ _ ha)), q _ H1 e1 (wk_enumL ha ra)⟩
  · refine .inr (hs ρ _ h1 S σ H al en _ fun vs H1 e1 rv => ?_)
    cases h
    cases rv with
    | cons g1 t =>
      cases t
      cases g1 with
      | tup ha _ ra => exact ⟨_, _, rfl, .inl (.inr ⟨_, hid_le _ _ ha⟩), q _ H1 e1 (wk_enumT ha ra)⟩
theorem swi_seq {a : XW} (ha : SW te a) : SWI false (iSeq K te) (wiE a) := fun pn F T H σ ρ xs ρ' st h R q => by
  obtain ⟨⟨d, ρ1⟩, h1, h⟩ := bind_some h
  obtain ⟨ys, h2, h⟩ := bind_some h
  cases h
  cases d with
  | list ds =>
    cases h2
    refine .inl (ha pn F T H σ ρ _ _ st h1 _ fun v T1 H1 st1 s1 rv => ?_)
    cases rv with
    | lst hx ra => exact ⟨_, rfl, ⟨_, .inl (.inl (hid_le _ _ hx))⟩, q _ T1 H1 st1 s1 (wk_lst hx ra)⟩
  | tuple ds =>
    cases h2
    refine .inr (ha pn F T H σ ρ _ _ st h1 _ fun v T1 H1 st1 s1 rv => ?_)
    cases rv with
    | tup hx _ ra => exact ⟨_, rfl, ⟨_, .inl (.inr ⟨_, hid_le _ _ hx⟩)⟩, q _ T1 H1 st1 s1 (wk_tup hx ra)⟩
  | dict kvs =>
    refine .inl (ha pn F T H σ ρ _ _ st h1 _ fun v T1 H1 st1 s1 rv => ?_)
    cases rv with
    | dct _ _ hp _ => rcases zip_str hp with e | ⟨k, d, r, e⟩ <;> (subst e; cases h2)
    | dci _ _ _ => cases h2
    | exo _ _ _ _ => cases h2
    | «fun» _ => cases h2
    | hal _ _ _ _ _ => cases h2
    | scr hs ra => cases h2; exact ⟨_, rfl, ⟨_, sqx hid_le hs⟩, q _ T1 H1 st1 s1 (wk_scr hs ra)⟩
  | _ => cases h2
theorem swi_rng {as : XWA} (hs : SWA ts as) : SWI false (iRng1 ts) (wiA rngP as) := fun pn F T H σ ρ xs ρ' st h R q => by
  obtain ⟨⟨ds, ρ1⟩, h1, h⟩ := bind_some h
  obtain ⟨ys, h2, h⟩ := bind_some h
  cases h
  refine hs pn F T H σ ρ ds _ st h1 _ fun vs T1 H1 st1 s1 rv => ?_
  obtain ⟨j, h2, h3, h4, w⟩ := core_rng h2 rv
  exact ⟨j, h2, h3, h4, q _ T1 H1 st1 s1 w⟩
theorem swi_rng2 {as : XWA} (hs : SWA ts as) : SWI false (iRng2 ts) (wiA rng2P as) := fun pn F T H σ ρ xs ρ' st h R q => by
  obtain ⟨⟨ds, ρ1⟩, h1, h⟩ := bind_some h
  obtain ⟨ys, h2, h⟩ := bind_some h
  cases h
  refine hs pn F T H σ ρ ds _ st h1 _ fun vs T1 H1 st1 s1 rv => ?_
  obtain ⟨i, j, h2, h3, w⟩ := core_rng2 h2 rv
  exact ⟨i, j, h2, h3, q _ T1 H1 st1 s1 w⟩
theorem swi_enum {as : XWA} (hs : SWA ts as) : SWI true (iEnumU K ts) (wiA enumP as) := fun pn F T H σ ρ xs ρ' st h R q => by
  obtain ⟨⟨ds, ρ1⟩, h1, h⟩ := bind_some h
  obtain ⟨ys, h2, h⟩ := bind_some h
  cases h
  rcases enum_l h2 with ⟨l, e⟩ | ⟨l, e⟩ <;> (have e : ds = _ := e; subst e)
  · refine .inl (hs pn F T H σ ρ _ _ st h1 _ fun vs T1 H1 st1 s1 rv => ?_)
    cases h2
    cases rv with
    | cons g1 t =>
      cases t
      cases g1 with
      | lst ha ra => exact ⟨_, _, rfl, .inl (.inl (hid_le _ _ ha)), q _ T1 H1 st1 s1 (wk_enumL ha ra)⟩
  · refine .inr (hs pn F T H σ ρ _ _ st h1 _ fun vs T1 H1 st1 s1 rv => ?_)
    cases h2
    cases rv with
    | cons g1 t =>
      cases t
      cases g1 with
      | tup ha _ ra => exact ⟨_, _, rfl, .inl (.inr ⟨_, hid_le _ _ ha⟩), q _ T1 H1 st1 s1 (wk_enumT ha ra)⟩
end
end Uv

namespace Uv
open PySem PySem.Spec PyProof.Rows L2
open Evl (Ex)
variable [kk : KK]
def Off (vs : List Nat) (σ σ' : L2.St) : Prop := σ'.length = σ.length ∧ ∀ (i : Nat), i ∉ vs → σ'[i]? = σ[i]?
theorem Off.refl {vs : List Nat} {σ : L2.St} : Off vs σ σ := ⟨rfl, fun _ _ => rfl⟩
theorem Off.name {i : Nat} {σ : L2.St} {o : Option V} : Off [i] σ (σ.set i o) := ⟨List.length_set, fun j hj => List.getElem?_set_ne fun z => hj (by rw [z]; exact List.mem_cons_self ..)⟩
theorem Off.trans {vs ws : List Nat} {σ σ1 σ2 : L2.St} (a : Off vs σ σ1) (b : Off ws σ1 σ2) : Off (vs ++ ws) σ σ2 := ⟨b.1.trans a.1, fun i hi => (b.2 i fun z => hi (List.mem_append_right _ z)).trans (a.2 i fun z => hi (List.mem_append_left _ z))⟩
def gTU (K : PySem.W.Frag) (n : Nat) (t : TGs) : TG := fun v σ H Q => gTup K n t v σ H Q ∨ gUnl K n t v σ H Q
theorem PG.or {X : Cx} {e : Expr} {t u : TG} (h : PG X e t) (h' : PG X e u) : PG X e (fun v σ H Q => t v σ H Q ∨ u v σ H Q) := ⟨fun pins s σ H v w Q I r q => q.elim (h.run pins s σ H v w Q I r) (h'.run pins s σ H v w Q I r)⟩
abbrev XGV := PD → VE → Option VE
abbrev XGVs := List PD → VE → Option VE
def gvName (i : Nat) : XGV := fun x ρ => some (ρ.set i (some x))
def gvNil : XGVs := fun xs ρ => match xs with
  | [] => some ρ
  | _ :: _ => none
def gvCons (g : XGV) (gs : XGVs) : XGVs := fun xs ρ => match xs with
  | x :: r => (g x ρ).bind fun ρ1 => gs r ρ1
  | [] => none
def gvTup (n : Nat) (gs : XGVs) : XGV := fun x ρ => (seqP x).bind fun ds => if ds.length = n then gs ds ρ else none
def SGV (b : Bool) (g : TG) (xg : XGV) (vs : List Nat) : Prop := ∀ x ρ ρ', xg x ρ = some ρ' → ∀ S σ H v, En (hid S H) σ ρ → Rk b (hid S H) v x → ∀ Q : L2.St → Hp → Prop, (∀ σ', En (hid S H) σ' ρ' → Off vs σ σ' → Q σ' H) → g v σ H Q
def SGVs (gs : TGs) (xg : XGVs) (vs : List Nat) : Prop := ∀ xs ρ ρ', xg xs ρ = some ρ' → ∀ S σ H ws, En (hid S H) σ ρ → RpAll (hid S H) ws xs → ∀ Q : L2.St → Hp → Prop, (∀ σ', En (hid S H) σ' ρ' → Off vs σ σ' → Q σ' H) → gs ws σ H Q
abbrev XG := PD → Env → Option Env
abbrev XGs := List PD → Env → Option Env
def gName' (i : Nat) : XG := fun x ρ => some (ρ.set i (.dat x))
def gNil' : XGs := fun xs ρ => match xs with
  | [] => some ρ
  | _ :: _ => none
def gCons' (g : XG) (gs : XGs) : XGs := fun xs ρ => match xs with
  | x :: r => (g x ρ).bind fun ρ1 => gs r ρ1
  | [] => none
def gTup' (n : Nat) (gs : XGs) : XG := fun x ρ => (seqP x).bind fun ds => if ds.length = n then gs ds ρ else none
def SG (b : Bool) (g : TG) (xg : XG) (vs : List Nat) : Prop := ∀ pn F T H σ v x ρ ρ', StOk pn F T H σ ρ → xg x ρ = some ρ' → Rk b (hid (SF F T) H) v x → ∀ Q : L2.St → Hp → Prop, (∀ σ' T', StOk pn F T' H σ' ρ' → Stp F T H T' H → Off vs σ σ' → Q σ' H) → g v σ H Q
def SGs (gs : TGs) (xg : XGs) (vs : List Nat) : Prop := ∀ pn F T H σ ws xs ρ ρ', StOk pn F T H σ ρ → xg xs ρ = some ρ' → RpAll (hid (SF F T) H) ws xs → ∀ Q : L2.St → Hp → Prop, (∀ σ' T', StOk pn F T' H σ' ρ' → Stp F T H T' H → Off vs σ σ' → Q σ' H) → gs ws σ H Q
section
variable {vs ws : List Nat}
theorem sgv_name {i : Nat} : SGV false (gName i) (gvName i) [i] := fun x ρ ρ' h S σ H v en r Q q => by
  cases h
  rcases r with r | ⟨z, _⟩
  · exact q _ (en.set i r) Off.name
  · cases z
theorem sgv_nil : SGVs gNil gvNil [] := fun xs ρ ρ' h S σ H us en r Q q => by
  cases r with
  | nil => cases h; exact ⟨rfl, q σ en Off.refl⟩
  | cons _ _ => cases h
theorem sgv_cons {g : TG} {gs : TGs} {xg : XGV} {xgs : XGVs} (hg : SGV false g xg vs) (hs : SGVs gs xgs ws) : SGVs (gCons g gs) (gvCons xg xgs) (vs ++ ws) := fun xs ρ ρ' h S σ H us en r Q q => by
  cases r with
  | nil => cases h
  | cons a b =>
    obtain ⟨ρ1, h1, h2⟩ := bind_some (show (xg _ ρ).bind _ = some ρ' from h)
    exact ⟨_, _, rfl, hg _ ρ ρ1 h1 S σ H _ en (.inl a) _ fun σ1 en1 f1 => hs _ ρ1 ρ' h2 S σ1 H _ en1 b Q fun σ2 en2 f2 => q σ2 en2 (f1.trans f2)⟩
theorem seq_read {b : Bool} {n : Nat} {H G : Hp} {v : V} {x : PD} {ds : List PD} (e : Ex G H) (hx : seqP x = some ds) (hn : ds.length = n) (r : Rk b G v x) : ∃ a us, v = .ref a ∧ (SqT K H a us ∨ SqL K H a us) ∧ us.length = n ∧ RpAll G us ds := by
  rcases r with r | ⟨_, a, us, es, rfl, ha, ra, rfl⟩
  · cases r with
    | lst ha ra => cases hx; exact ⟨_, _, rfl, .inr (.inl (.inl (e _ _ ha))), by rw [ra.length, hn], ra⟩
    | tup ha _ ra => cases hx; exact ⟨_, _, rfl, .inl (.inl (.inr ⟨_, e _ _ ha⟩)), by rw [ra.length, hn], ra⟩
    | scr hs ra => cases hx; exact ⟨_, _, rfl, .inr (sqx e hs), by rw [ra.length, hn], ra⟩
    | dct _ _ hp _ => rcases zip_str hp with e | ⟨k, d, r, e⟩ <;> (subst e; cases hx)
    | _ => cases hx
  · cases hx
    exact ⟨a, us, rfl, .inl (.inl (.inl (e _ _ ha))), by rw [ra.length, hn], ra⟩
theorem sgv_tup {b : Bool} {n : Nat} {gs : TGs} {xgs : XGVs} (hs : SGVs gs xgs vs) : SGV b (gTU K n gs) (gvTup n xgs) vs := fun x ρ ρ' h S σ H v en r Q q => by
  obtain ⟨ds, h1, h⟩ := bind_some h
  by_cases c : ds.length = n
  · rw [if_pos c] at h
    obtain ⟨a, us, rfl, sq, hl, ra⟩ := seq_read (hid_le (S := S)) h1 c r
    rcases sq with sq | sq
    · exact .inl ⟨a, us, rfl, sq, hl, hs ds ρ ρ' h S σ H us en ra Q q⟩
    · exact .inr ⟨a, us, rfl, sq, hl, hs ds ρ ρ' h S σ H us en ra Q q⟩
  · rw [if_neg c] at h; cases h
theorem sg_name {i : Nat} (hi : i ≠ 0) : SG false (gName i) (gName' i) [i] := fun pn F T H σ v x ρ ρ' st h r Q q => by
  cases h
  rcases r with r | ⟨z, _⟩
  · obtain ⟨st', s⟩ := st.set hi r
    exact q _ _ st' s Off.name
  · cases z
theorem sg_nil : SGs gNil gNil' [] := fun pn F T H σ us xs ρ ρ' st h r Q q => by
  cases r with
  | nil => cases h; exact ⟨rfl, q σ T st Stp.refl Off.refl⟩
  | cons _ _ => cases h
theorem sg_cons {g : TG} {gs : TGs} {xg : XG} {xgs : XGs} (hg : SG false g xg vs) (hs : SGs gs xgs ws) : SGs (gCons g gs) (gCons' xg xgs) (vs ++ ws) := fun pn F T H σ us xs ρ ρ' st h r Q q => by
  cases r with
  | nil => cases h
  | cons a b =>
    obtain ⟨ρ1, h1, h2⟩ := bind_some (show (xg _ ρ).bind _ = some ρ' from h)
    exact ⟨_, _, rfl, hg pn F T H σ _ _ ρ ρ1 st h1 (.inl a) _ fun σ1 T1 st1 s1 f1 => hs pn F T1 H σ1 _ _ ρ1 ρ' st1 h2 (b.ex s1.vis) Q fun σ2 T2 st2 s2 f2 => q σ2 T2 st2 (s1.trans s2) (f1.trans f2)⟩
theorem sg_tup {b : Bool} {n : Nat} {gs : TGs} {xgs : XGs} (hs : SGs gs xgs vs) : SG b (gTU K n gs) (gTup' n xgs) vs := fun pn F T H σ v x ρ ρ' st h r Q q => by
  obtain ⟨ds, h1, h⟩ := bind_some h
  by_cases c : ds.length = n
  · rw [if_pos c] at h
    obtain ⟨a, us, rfl, sq, hl, ra⟩ := seq_read (hid_le (S := SF F T)) h1 c r
    rcases sq with sq | sq
    · exact .inl ⟨a, us, rfl, sq, hl, hs pn F T H σ us ds ρ ρ' st h ra Q q⟩
    · exact .inr ⟨a, us, rfl, sq, hl, hs pn F T H σ us ds ρ ρ' st h ra Q q⟩
  · rw [if_neg c] at h; cases h
end
def clear (ρ : VE) : List Nat → VE
  | [] => ρ
  | v :: vs => (clear ρ vs).set v none
theorem clear_en {H : Hp} {σ : L2.St} {ρ : VE} (h : En H σ ρ) : ∀ vs : List Nat, En H (wipe σ vs) (clear ρ vs)
  | [] => h
  | v :: vs => (clear_en h vs).clear v none
theorem wipe_get {σ : L2.St} {i : Nat} : ∀ {vs : List Nat}, i ∉ vs → (wipe σ vs)[i]? = σ[i]?
  | [], _ => rfl
  | v :: vs, h => by
    unfold wipe
    rw [List.getElem?_set_ne (fun z => h (by rw [← z]; exact List.mem_cons_self ..))]
    exact wipe_get fun z => h (List.mem_cons_of_mem _ z)
theorem wipe_at {σ : L2.St} {i : Nat} : ∀ {vs : List Nat}, i ∈ vs → i < σ.length → (wipe σ vs)[i]? = some none
  | v :: vs, h, hl => by
    unfold wipe
    by_cases c : v = i
    · subst c
      exact List.getElem?_set_self (by rw [wipe_length]; exact hl)
    · rw [List.getElem?_set_ne c]
      rcases List.mem_cons.mp h with z | z
      · exact absurd z.symm c
      · exact wipe_at z hl
theorem wipe_eq {σ τ : L2.St} {vs : List Nat} (hl : σ.length = τ.length) (h : ∀ i, i ∉ vs → σ[i]? = τ[i]?) : wipe σ vs = wipe τ vs := by
  apply List.ext_getElem?
  intro i
  by_cases c : i ∈ vs
  · by_cases b : i < σ.length
    · rw [wipe_at c b, wipe_at c (by omega)]
    · rw [List.getElem?_eq_none (by rw [wipe_length]; omega), List.getElem?_eq_none (by rw [wipe_length]; omega)]
  · rw [wipe_get c, wipe_get c]
    exact h i c
theorem wipe_off {vs : List Nat} {σ τ : L2.St} {us : List Nat} (f : Off us (wipe σ vs) τ) (hu : ∀ i ∈ us, i ∈ vs) : wipe τ vs = wipe σ vs := by
  have ew : wipe (wipe σ vs) vs = wipe σ vs := wipe_eq (wipe_length σ vs) fun j hj => wipe_get hj
  rw [← ew]
  exact wipe_eq f.1 fun j hj => f.2 j fun z => hj (hu j z)
def lcGo (g : XGV) (t : XT) (e : XE) (ρ : VE) : List PD → Option (List PD)
  | [] => some []
  | x :: xs => (g x ρ).bind fun ρ1 => (t ρ1).bind fun b => if b = true then (e ρ1).bind fun d => (lcGo g t e ρ xs).bind fun ds => some (d :: ds) else lcGo g t e ρ xs
def xLc (src : XI) (g : XGV) (t : XT) (e : XE) (vs : List Nat) : XE := fun ρ => (src ρ).bind fun xs => if xs.length ≤ 40000 then (lcGo g t e (clear ρ vs) xs).bind fun ds => some (.list ds) else none
def FrL (te : TE) (ρ : VE) (ds : List PD) : Prop := ∀ S σ H, Al S H → En (hid S H) σ ρ → ∀ Q : VK, (∀ p vs H2, Ex H H2 → H p = none → H2 p = some (.lst vs) → RpAll (hid (fun x => x = p ∨ S x) H2) vs ds → Q (.ref p) H2) → te σ H Q
def SEF (te : TE) (x : XE) : Prop := ∀ ρ d, x ρ = some d → ∃ ds, d = .list ds ∧ FrL te ρ ds
theorem SEF.se {te : TE} {x : XE} (h : SEF te x) : SE te x := fun ρ d e S σ H al en Q q => by
  obtain ⟨ds, rfl, f⟩ := h ρ d e
  exact f S σ H al en Q fun p vs H2 e2 hp h2 ra => q _ H2 e2 (.lst (by rw [hid_out (al.new hp)]; exact h2) (ra.ex (hid_sub fun x hx => .inr hx)))
section
theorem lc_step {g : XGV} {t : XT} {e : XE} {ρ : VE} {x : PD} {xs ds : List PD} (h : lcGo g t e ρ (x :: xs) = some ds) : ∃ ρ1 b, g x ρ = some ρ1 ∧ t ρ1 = some b ∧ ((b = true ∧ ∃ d ds', e ρ1 = some d ∧ lcGo g t e ρ xs = some ds' ∧ ds = d :: ds') ∨ (b = false ∧ lcGo g t e ρ xs = some ds)) := by
  obtain ⟨ρ1, h1, h⟩ := bind_some (show (g x ρ).bind _ = some ds from h)
  obtain ⟨b, h2, h⟩ := bind_some h
  refine ⟨ρ1, b, h1, h2, ?_⟩
  cases b with
  | true =>
    obtain ⟨d, h3, h⟩ := bind_some (show (e ρ1).bind _ = some ds from h)
    obtain ⟨ds', h4, h⟩ := bind_some h
    cases h
    exact .inl ⟨rfl, d, ds', h3, h4, rfl⟩
  | false => exact .inr ⟨rfl, h⟩
theorem sef_lc {b : Bool} {wi : TI} {g : TG} {tt : TT} {te : TE} {vs us : List Nat} {src : XI} {xg : XGV} {t : XT} {e : XE} (hs : SI b wi src) (hg : SGV b g xg us) (hu : ∀ i ∈ us, i ∈ vs) (ht : ST tt t) (he : SE te e) : SEF (tLc wi g tt te vs) (xLc src xg t e vs) := fun ρ d h => by
  obtain ⟨xs, h1, h⟩ := bind_some h
  by_cases hz : xs.length ≤ 40000
  · rw [if_pos hz] at h
    obtain ⟨ds, h2, h⟩ := bind_some h
    cases h
    refine ⟨ds, rfl, fun S σ H al en Q q => hs ρ xs h1 S σ H al en _ fun J H1 e1 wk D hD => ?_⟩
    have al1 := al.ex e1
    have alD : Al (fun x => x = D ∨ S x) (upd H1 D (.lst [])) := fun x hx => by
      by_cases c : x = D
      · subst c; rw [upd_same]; exact fun z => nomatch z
      · rw [upd_ne c]; exact al1 x (hx.resolve_left c)
    refine ⟨fun i m H' => m = xs.length - i ∧ i ≤ xs.length ∧ Ex H1 H' ∧ Al (fun x => x = D ∨ S x) H' ∧ ∃ acc ds1 ds2, H' D = some (.lst acc) ∧ acc.length ≤ i ∧ RpAll (hid (fun x => x = D ∨ S x) H') acc ds1 ∧ lcGo xg t e (clear ρ vs) (xs.drop i) = some ds2 ∧ ds = ds1 ++ ds2,
      ⟨_, rfl, Nat.zero_le _, Ex.new hD, alD, [], [], ds, upd_same, Nat.le_refl _, .nil, h2, rfl⟩, fun i m H' hw => ?_⟩
    obtain ⟨rfl, hi, e2, al2, acc, ds1, ds2, hacc, la, ra, hgo, hds⟩ := hw
    have ewk : Ex (hid S H1) (hid (fun x => x = D ∨ S x) H') := hid_cons e2 hD
    obtain ⟨w1, w2⟩ := wk _ H' ewk al2
    by_cases hlt : i < xs.length
    · obtain ⟨w3, w4⟩ := w2 i _ (List.getElem?_eq_getElem hlt)
      rw [List.drop_eq_getElem_cons hlt] at hgo
      obtain ⟨ρ1, b1, g1, t1, alt⟩ := lc_step hgo
      refine .inr ⟨w3, fun H2 => Ex H1 H2 ∧ Al (fun x => x = D ∨ S x) H2 ∧ ∃ acc ds1 ds2, H2 D = some (.lst acc) ∧ acc.length ≤ i + 1 ∧ RpAll (hid (fun x => x = D ∨ S x) H2) acc ds1 ∧ lcGo xg t e (clear ρ vs) (xs.drop (i + 1)) = some ds2 ∧ ds = ds1 ++ ds2, fun H2 hn => ⟨_, by omega, rfl, hlt, hn⟩, fun v H3 y => ?_⟩
      obtain ⟨e3, rv⟩ := w4 v H3 y
      have al3 := al2.ex e3
      have en3 : En (hid (fun x => x = D ∨ S x) H3) (wipe σ vs) (clear ρ vs) := clear_en (en.ex (((hid_ex e1).trans ewk).trans (hid_ex e3))) vs
      refine hg _ _ ρ1 g1 _ (wipe σ vs) H3 v en3 rv _ fun σ4 en4 off => ⟨wipe_off off hu, ?_⟩
      refine ht ρ1 b1 t1 _ σ4 H3 al3 en4 _ fun H5 e5 => ?_
      have hacc5 : H5 D = some (.lst acc) := e5 _ _ (e3 _ _ hacc)
      have ra5 := ra.ex ((hid_ex (S := fun x => x = D ∨ S x) e3).trans (hid_ex e5))
      rcases alt with ⟨rfl, d1, ds', f1, f2, rfl⟩ | ⟨rfl, f2⟩
      · show te σ4 H5 _
        refine he ρ1 d1 f1 _ σ4 H5 (al3.ex e5) (en4.ex (hid_ex e5)) _ fun z H6 e6 rz => ⟨acc, e6 _ _ hacc5, Evl.sz_lt (by omega), Ex.mut (((e2.trans e3).trans e5).trans e6) hD, ?_, acc ++ [z], ds1 ++ [d1], ds', upd_same, by rw [List.length_append]; simpa using la, ?_, f2, by rw [hds, List.append_assoc]; rfl⟩
        · intro x hx
          by_cases c : x = D
          · subst c; rw [upd_same]; exact fun q => nomatch q
          · rw [upd_ne c]; exact ((al3.ex e5).ex e6) x hx
        · have hu' : Ex (hid (fun x => x = D ∨ S x) H6) (hid (fun x => x = D ∨ S x) (upd H6 D (.lst (acc ++ [z])))) := fun x o h => by
            obtain ⟨c, h⟩ := hid_some h
            rw [hid_out c, upd_ne (fun z => c (.inl z))]
            exact h
          exact RpAll.append (ra5.ex ((hid_ex e6).trans hu')) (.cons (rz.ex hu') .nil)
      · exact ⟨(e2.trans e3).trans e5, al3.ex e5, acc, ds1, ds2, hacc5, by omega, ra5, f2, hds⟩
    · have ei : i = xs.length := by omega
      subst ei
      rw [List.drop_length] at hgo
      cases hgo
      rw [List.append_nil] at hds
      subst hds
      exact .inl ⟨w1, q D acc H' (e1.trans e2) (by
        cases qq : H D with
        | none => rfl
        | some o => rw [e1 _ _ qq] at hD; cases hD) hacc ra⟩
  · rw [if_neg hz] at h; cases h
theorem sef_lst {ts : TA} {as : XA} (hs : SA ts as) : SEF (tLst ts) (xLst as) := fun ρ d h => by
  obtain ⟨ds, h1, h⟩ := bind_some h
  by_cases hl : ds.length ≤ 100000
  · rw [if_pos hl] at h
    cases h
    refine ⟨ds, rfl, fun S σ H al en Q q => hs ρ ds h1 S σ H al en _ fun vs H1 e1 ra => ⟨by rw [ra.length]; exact Evl.sz_of hl, fun p hp => q p vs _ (e1.trans (Ex.new hp)) (by
      cases qq : H p with
      | none => rfl
      | some o => rw [e1 _ _ qq] at hp; cases hp) upd_same (ra.ex (hid_cons (Ex.new hp) hp))⟩⟩
  · rw [if_neg hl] at h; cases h
end
end Uv

namespace Uv
open PySem PySem.Spec PyProof.Rows L2
open Evl (Ex)
variable [kk : KK]
theorem FL_nil {F : Hs} : FL F [] = F := funext fun x => propext ⟨fun h => h.elim id (fun z => nomatch z), .inl⟩
theorem FL_app {F : Hs} {A B : List Addr} : FL (FL F A) B = FL F (A ++ B) := funext fun x => propext ⟨fun h => h.elim (fun h => h.elim .inl fun z => .inr (List.mem_append_left _ z)) fun z => .inr (List.mem_append_right _ z),
  fun h => h.elim (fun h => .inl (.inl h)) fun z => (List.mem_append.mp z).elim (fun z => .inl (.inr z)) .inr⟩
theorem FL_perm {F : Hs} {A B : List Addr} (h : ∀ x, x ∈ A ↔ x ∈ B) : FL F A = FL F B := funext fun x => propext ⟨fun z => z.elim .inl fun z => .inr ((h x).mp z), fun z => z.elim .inl fun z => .inr ((h x).mpr z)⟩
theorem SF_FL1 {F : Hs} {T : Trs} {p : Addr} : SF (FL F [p]) T = fun x => x = p ∨ SF F T x := funext fun x => propext ⟨fun h => h.elim (fun h => h.elim (fun z => .inr (.inl z)) fun z => .inl (by simpa using z)) fun z => .inr (.inr z),
  fun h => h.elim (fun z => .inl (.inr (by rw [z]; exact List.mem_cons_self ..))) fun z => z.elim (fun z => .inl (.inl z)) .inr⟩
section
variable {pn : Pn} {F : Hs} {T : Trs} {H H2 : Hp} {σ : L2.St} {ρ : Env}
theorem StOk.fresh (st : StOk pn F T H σ ρ) (e : Ex H H2) {p : Addr} (hp : H p = none) (h2 : H2 p ≠ none) : StOk pn (FL F [p]) T H2 σ ρ ∧ Ex (hid (SF F T) H) (hid (SF (FL F [p]) T) H2) := by
  have vis : Ex (hid (SF F T) H) (hid (SF (FL F [p]) T) H2) := by rw [SF_FL1]; exact hid_cons e hp
  have st2 := st.ex e
  refine ⟨⟨st.len, fun x h => ?_, fun i x hx z => ?_, st.dis, st.nd, st.out, fun i s hi => ?_, st.pin⟩, vis⟩
  · rcases h with h | h
    · exact st2.al x h
    · have ex : x = p := by simpa using h
      rw [ex]; exact h2
  · rcases z with z | z
    · exact st.off i x hx z
    · have ex : x = p := by simpa using z
      obtain ⟨vs, q, _⟩ := st.lst hx
      rw [ex, hp] at q
      cases q
  · obtain ⟨o, h1, h3⟩ := st.sl i s hi
    refine ⟨o, h1, h3.mv vis fun x hx => ?_⟩
    obtain ⟨vs, q, _⟩ := st.lst hx
    rw [q, e x _ q]
end
abbrev XWC := Env → Option (List Cel × Env)
def SWC (ta : TA) (w : XWC) : Prop := ∀ pn F T H σ ρ cs ρ', StOk pn F T H σ ρ → w ρ = some (cs, ρ') → ∀ Q : List V → Hp → Prop, (∀ vs B T' H', StOk pn (FL F B) T' H' σ ρ' → B.Nodup → (∀ x ∈ B, ¬ F x) → (∀ x, F x → H' x = H x) → Ex (hid (SF F T) H) (hid (SF (FL F B) T') H') → Cels (hid (SF (FL F B) T') H') H' vs cs B → Q vs H') → ta σ H Q
def asList : PD → Option (List PD)
  | .list ds => some ds
  | _ => none
theorem asList_eq {d : PD} {ds : List PD} (h : asList d = some ds) : d = .list ds := by
  cases d with
  | list l => cases h; rfl
  | _ => cases h
def wOM (x : XE) : XWO := fun ρ => ((x (mk ρ)).bind asList).bind fun ds => some (ds.map Cel.dat, ρ)
def wOV (x : XE) : XWO := fun ρ => ((x (vw ρ)).bind asList).bind fun ds => if flats ds = true then some (ds.map Cel.dat, ρ) else none
theorem Cels.dats {G H : Hp} : ∀ {vs : List V} {ds : List PD}, RpAll G vs ds → Cels G H vs (ds.map Cel.dat) []
  | _, _, .nil => .nil
  | _, _, .cons h r => .dat h (Cels.dats r)
theorem swo_M {te : TE} {x : XE} (h : SEF te x) : SWO te (wOM x) := fun pn F T H σ ρ cs ρ' st e Q q => by
  obtain ⟨ds, h1, h2⟩ := bind_some e
  obtain ⟨d, h1, h3⟩ := bind_some h1
  cases h2
  have e := asList_eq h3
  subst e
  obtain ⟨ds', e', f⟩ := h _ _ h1
  cases e'
  refine f (SF F T) σ H st.als st.mkd Q fun p vs H2 e2 hp h2 ra => ?_
  obtain ⟨st2, vis⟩ := st.fresh e2 hp (by rw [h2]; exact fun z => nomatch z)
  refine q _ [p] T H2 st2 (by simp) (fun x hx => ?_) (Stp.ex (T := T) st.al e2).fr vis ⟨p, vs, [], rfl, h2, Cels.dats (by rw [SF_FL1]; exact ra), rfl⟩
  have ex : x = p := by simpa using hx
  rw [ex]
  exact st.al.new hp
theorem swo_V {te : TE} {x : XE} (h : SEF te x) : SWO te (wOV x) := fun pn F T H σ ρ cs ρ' st e Q q => by
  obtain ⟨ds, h1, h2⟩ := bind_some e
  obtain ⟨d, h1, h3⟩ := bind_some h1
  by_cases c : flats ds = true
  · rw [if_pos c] at h2
    cases h2
    have e := asList_eq h3
    subst e
    obtain ⟨ds', e', f⟩ := h _ _ h1
    cases e'
    refine f F σ H st.al st.vw Q fun p vs H2 e2 hp h2 ra => ?_
    obtain ⟨st2, vis⟩ := st.fresh e2 hp (by rw [h2]; exact fun z => nomatch z)
    have fr : ∀ x o u, hid (fun x => x = p ∨ F x) H2 x = some (.frz o u) → hid (SF (FL F [p]) T) H2 x = some (.frz o u) := fun x o u hh => by
      obtain ⟨c1, c2⟩ := hid_some hh
      exact st2.frz (Ex.refl _) x o u (by rw [hid_out]; exact c2; exact fun z => c1 (z.elim .inr fun z => .inl (by simpa using z)))
    refine q _ [p] T H2 st2 (by simp) (fun x hx => ?_) (Stp.ex (T := T) st.al e2).fr vis ⟨p, vs, [], rfl, h2, Cels.dats (ra.flat fr c), rfl⟩
    have ex : x = p := by simpa using hx
    rw [ex]
    exact st.al.new hp
  · rw [if_neg c] at h2; cases h2
def wFz (o : XWO) : XW := fun ρ => (o ρ).bind fun x => some (.list (x.1.map Cel.pd), x.2)
theorem sw_fz {te : TE} {o : XWO} (h : SWO te o) : SW te (wFz o) := fun pn F T H σ ρ d ρ' st e Q q => by
  obtain ⟨⟨cs, ρ1⟩, h1, e⟩ := bind_some e
  cases e
  refine h pn F T H σ ρ cs _ st h1 Q fun v A T' H' st' nd off fr vis ow => ?_
  obtain ⟨st2, sub⟩ := st'.thaw
  refine q v T' H' st2 ⟨fr, vis.trans sub⟩ (ow.rp sub fun x hx => hid_out ?_)
  rintro (z | ⟨i, z⟩)
  · exact off x hx z
  · exact st'.off i x z (.inr hx)
def wcNil : XWC := fun ρ => some ([], ρ)
def wcDat (a : XW) (as : XWC) : XWC := fun ρ => (a ρ).bind fun x => (as x.2).bind fun xs => some (.dat x.1 :: xs.1, xs.2)
def allDat : List Cel → Option (List PD)
  | [] => some []
  | .dat d :: r => (allDat r).bind fun ds => some (d :: ds)
  | .sub _ :: _ => none
  | .hal _ :: _ => none
theorem allDat_map : ∀ ds : List PD, allDat (ds.map Cel.dat) = some ds
  | [] => rfl
  | d :: ds => by rw [List.map_cons, allDat, allDat_map ds]; rfl
theorem allDat_eq : ∀ {cs : List Cel} {ds : List PD}, allDat cs = some ds → cs = ds.map Cel.dat
  | [], ds, h => by cases h; rfl
  | .dat d :: r, ds, h => by
    obtain ⟨es, h1, h2⟩ := bind_some (show (allDat r).bind _ = some ds from h)
    cases h2
    rw [allDat_eq h1]
    rfl
  | .sub _ :: _, _, h => nomatch h
  | .hal _ :: _, _, h => nomatch h
def wcSub (a : XWO) (as : XWC) : XWC := fun ρ => (a ρ).bind fun x => (allDat x.1).bind fun ds => (as x.2).bind fun xs => some (.sub ds :: xs.1, xs.2)
theorem Cels.dats_inv {G H : Hp} : ∀ {vs : List V} {ds : List PD} {B : List Addr}, Cels G H vs (ds.map Cel.dat) B → RpAll G vs ds ∧ B = []
  | _, [], _, .nil => ⟨.nil, rfl⟩
  | _, d :: ds, _, .dat r c => ⟨.cons r (Cels.dats_inv c).1, (Cels.dats_inv c).2⟩
theorem swc_nil : SWC tNil wcNil := fun pn F T H σ ρ cs ρ' st e Q q => by
  cases e
  exact q [] [] T H (by rw [FL_nil]; exact st) (by simp) (fun x hx => nomatch hx) (fun _ _ => rfl) (by rw [FL_nil]; exact Ex.refl _) .nil
theorem swc_dat {ta : TE} {ts : TA} {a : XW} {as : XWC} (ha : SW ta a) (hs : SWC ts as) : SWC (tCons ta ts) (wcDat a as) := fun pn F T H σ ρ cs ρ' st e Q q => by
  obtain ⟨⟨x, ρ1⟩, h1, e⟩ := bind_some e
  obtain ⟨⟨xs, ρ2⟩, h2, e⟩ := bind_some e
  cases e
  exact ha pn F T H σ ρ x ρ1 st h1 _ fun v T1 H1 st1 s1 rv => hs pn F T1 H1 σ ρ1 xs ρ2 st1 h2 _ fun vs B T2 H2 st2 nd off fr vis c =>
    q (v :: vs) B T2 H2 st2 nd off (fun x hx => (fr x hx).trans (s1.fr x hx)) (s1.vis.trans vis) (.dat (rv.ex vis) c)
theorem swc_sub {ta : TE} {ts : TA} {a : XWO} {as : XWC} (ha : SWO ta a) (hs : SWC ts as) : SWC (tCons ta ts) (wcSub a as) := fun pn F T H σ ρ cs ρ' st e0 Q q => by
  obtain ⟨⟨x, ρ1⟩, h1, e1⟩ := bind_some e0
  obtain ⟨ds, hd, e2⟩ := bind_some e1
  obtain ⟨⟨xs, ρ2⟩, h2, e3⟩ := bind_some e2
  have e4 : some (Cel.sub ds :: xs, ρ2) = some (cs, ρ') := e3
  clear e0 e1 e2 e3
  obtain ⟨rfl, rfl⟩ := Prod.mk.inj (Option.some.inj e4)
  have ex : x = _ := allDat_eq hd
  subst ex
  refine ha pn F T H σ ρ _ ρ1 st h1 _ fun v A T1 H1 st1 nd off fr vis ow => ?_
  obtain ⟨b, ws, B0, rfl, hb, cb, rfl⟩ := ow
  obtain ⟨ra, rfl⟩ := cb.dats_inv
  refine hs pn (FL F [b]) T1 H1 σ ρ1 xs ρ2 st1 h2 _ fun vs B T2 H2 st2 nd2 off2 fr2 vis2 c => ?_
  have eF : FL (FL F [b]) B = FL F (b :: B) := FL_app
  rw [eF] at st2 vis2 c
  have hb2 : H2 b = some (.lst ws) := by rw [fr2 b (.inr (List.mem_cons_self ..))]; exact hb
  refine q (.ref b :: vs) (b :: B) T2 H2 st2 (List.nodup_cons.mpr ⟨fun z => off2 b z (.inr (List.mem_cons_self ..)), nd2⟩) (fun x hx => ?_) (fun x hx => (fr2 x (.inl hx)).trans (fr x hx)) (vis.trans vis2) (.sub hb2 (ra.ex vis2) c)
  rcases List.mem_cons.mp hx with z | z
  · rw [z]; exact off b (List.mem_cons_self ..)
  · exact fun w => off2 x z (.inl w)
def wOL (as : XWC) : XWO := fun ρ => (as ρ).bind fun x => if x.1.length ≤ 100000 then some x else none
theorem swo_lst {ts : TA} {as : XWC} (hs : SWC ts as) : SWO (tLst ts) (wOL as) := fun pn F T H σ ρ cs ρ' st e Q q => by
  obtain ⟨⟨xs, ρ1⟩, h1, e⟩ := bind_some e
  by_cases hl : xs.length ≤ 100000
  · rw [if_pos hl] at e
    cases e
    refine hs pn F T H σ ρ _ _ st h1 _ fun vs B T1 H1 st1 nd off fr vis c => ⟨by rw [c.length]; exact Evl.sz_of hl, fun p hp => ?_⟩
    obtain ⟨st2, vis2⟩ := st1.fresh (Ex.new (o := .lst vs) hp) hp (by rw [upd_same]; exact fun z => nomatch z)
    have eF : FL (FL F B) [p] = FL F (p :: B) := by
      rw [FL_app]
      exact FL_perm fun x => by simp [or_comm]
    rw [eF] at st2 vis2
    have npB : ∀ x ∈ B, x ≠ p := fun x hx z => by
      have := st1.al x (.inr hx)
      rw [z, hp] at this
      exact this rfl
    have npF : ∀ x, F x → x ≠ p := fun x hx z => by
      have := st1.al x (.inl hx)
      rw [z, hp] at this
      exact this rfl
    refine q (.ref p) (p :: B) T1 _ st2 (List.nodup_cons.mpr ⟨fun z => npB p z rfl, nd⟩) (fun x hx => ?_) (fun x hx => by rw [upd_ne (npF x hx)]; exact fr x hx) (vis.trans vis2) ⟨p, vs, B, rfl, upd_same, c.mv vis2 fun x hx => upd_ne (npB x hx), rfl⟩
    rcases List.mem_cons.mp hx with z | z
    · rw [z]; exact fun w => npF p w rfl
    · exact off x z
  · rw [if_neg hl] at e; cases e
end Uv

namespace Uv
open PySem PySem.Spec PyProof.Rows L2
open Evl (Ex)
variable [kk : KK]
inductive Out | nxt (ρ : Env) | ret (d : PD) (ρ : Env) | retO (cs : List Cel) (ρ : Env) | brk (ρ : Env) | cnt (ρ : Env)
abbrev XS := Env → Option Out
def OutOk (pn : Pn) (F : Hs) (T : Trs) (H : Hp) (D : Ends) : Out → Prop
  | .nxt ρ => ∀ σ T' H', StOk pn F T' H' σ ρ → Stp F T H T' H' → D.nx σ H'
  | .brk ρ => ∀ σ T' H', StOk pn F T' H' σ ρ → Stp F T H T' H' → D.bk σ H'
  | .cnt ρ => ∀ σ T' H', StOk pn F T' H' σ ρ → Stp F T H T' H' → D.ct σ H'
  | .ret d ρ => ∀ v σ T' H', StOk pn F T' H' σ ρ → Stp F T H T' H' → Rp (hid (SF F T') H') v d → D.rt v H'
  | .retO cs ρ => ∀ v A σ T' H', StOk pn (FL F A) T' H' σ ρ → A.Nodup → (∀ x ∈ A, ¬ F x) → (∀ x, F x → H' x = H x) → Ex (hid (SF F T) H) (hid (SF (FL F A) T') H') → Own (hid (SF (FL F A) T') H') H' v cs A → D.rt v H'
def SS (ts : TS) (x : XS) : Prop := ∀ pn F T H σ ρ o D, StOk pn F T H σ ρ → x ρ = some o → OutOk pn F T H D o → ts D σ H
theorem OutOk.step {pn : Pn} {F : Hs} {T T1 : Trs} {H H1 : Hp} {D : Ends} (s : Stp F T H T1 H1) : ∀ {o : Out}, OutOk pn F T H D o → OutOk pn F T1 H1 D o
  | .nxt _, h => fun σ T' H' st s' => h σ T' H' st (s.trans s')
  | .brk _, h => fun σ T' H' st s' => h σ T' H' st (s.trans s')
  | .cnt _, h => fun σ T' H' st s' => h σ T' H' st (s.trans s')
  | .ret _ _, h => fun v σ T' H' st s' => h v σ T' H' st (s.trans s')
  | .retO _ _, h => fun v A σ T' H' st nd off fr vis => h v A σ T' H' st nd off (fun x hx => (fr x hx).trans (s.fr x hx)) (s.vis.trans vis)
theorem OutOk.on {pn : Pn} {F : Hs} {T : Trs} {H : Hp} {D : Ends} {nx bk ct : L2.St → Hp → Prop} : ∀ {o : Out}, (∀ ρ, o ≠ .nxt ρ) → (∀ ρ, o ≠ .brk ρ) → (∀ ρ, o ≠ .cnt ρ) → OutOk pn F T H D o → OutOk pn F T H { D with nx := nx, bk := bk, ct := ct } o
  | .nxt _, h, _, _, _ => absurd rfl (h _)
  | .brk _, _, h, _, _ => absurd rfl (h _)
  | .cnt _, _, _, h, _ => absurd rfl (h _)
  | .ret _ _, _, _, _, h => h
  | .retO _ _, _, _, _, h => h
def sNext : XS := fun ρ => some (.nxt ρ)
def sBreak : XS := fun ρ => some (.brk ρ)
def sSeq (x y : XS) : XS := fun ρ => (x ρ).bind fun o => match o with
  | .nxt ρ1 => y ρ1
  | o => some o
def sRet (w : XW) : XS := fun ρ => (w ρ).bind fun x => some (.ret x.1 x.2)
def sRetO (w : XWO) : XS := fun ρ => (w ρ).bind fun x => some (.retO x.1 x.2)
def sIf (c : XWT) (x y : XS) : XS := fun ρ => (c ρ).bind fun k => if k.1 = true then x k.2 else y k.2
def sAsg (g : XG) (w : XW) : XS := fun ρ => (w ρ).bind fun x => (g x.1 x.2).bind fun ρ1 => some (.nxt ρ1)
def sOwn (i : Nat) (w : XWO) : XS := fun ρ => (w ρ).bind fun x => if i < x.2.length then some (.nxt (x.2.set i (.own x.1))) else none
def toSl : Cel → Sl
  | .dat d => .dat d
  | .sub ds => .own (ds.map Cel.dat)
  | .hal h => .hal 1000 h
def two : List Cel → Option (Cel × Cel)
  | [c, e] => some (c, e)
  | _ => none
theorem two_eq {cs : List Cel} {c e : Cel} (h : two cs = some (c, e)) : cs = [c, e] := by
  unfold two at h
  split at h
  · cases h; rfl
  · cases h
def sPar (i j : Nat) (as : XWC) : XS := fun ρ => (as ρ).bind fun x => (two x.1).bind fun c => if i < x.2.length ∧ j < x.2.length then some (.nxt ((x.2.set i (toSl c.1)).set j (toSl c.2))) else none
section
variable {te : TE} {t u : TS} {ct : TT} {x y : XS} {w : XW} {c : XWT}
theorem ss_next : SS tNext sNext := fun pn F T H σ ρ o D st e q => by cases e; exact q σ T H st Stp.refl
theorem ss_break : SS tBreak sBreak := fun pn F T H σ ρ o D st e q => by cases e; exact q σ T H st Stp.refl
theorem ss_seq (hx : SS t x) (hy : SS u y) : SS (tSeq t u) (sSeq x y) := fun pn F T H σ ρ o D st e q => by
  obtain ⟨o1, h1, e⟩ := bind_some e
  cases o1 with
  | nxt ρ1 => exact hx pn F T H σ ρ _ { D with nx := u D } st h1 fun σ2 T2 H2 st2 s2 => hy pn F T2 H2 σ2 ρ1 o D st2 e (q.step s2)
  | ret d ρ1 => cases e; exact hx pn F T H σ ρ _ { D with nx := u D } st h1 q
  | retO d ρ1 => cases e; exact hx pn F T H σ ρ _ { D with nx := u D } st h1 q
  | brk ρ1 => cases e; exact hx pn F T H σ ρ _ { D with nx := u D } st h1 q
  | cnt ρ1 => cases e; exact hx pn F T H σ ρ _ { D with nx := u D } st h1 q
theorem ss_ret (h : SW te w) : SS (tRet te) (sRet w) := fun pn F T H σ ρ o D st e q => by
  obtain ⟨⟨d, ρ1⟩, h1, e⟩ := bind_some e
  cases e
  exact h pn F T H σ ρ d ρ1 st h1 _ fun v T' H' st' s' rv => q v σ T' H' st' s' rv
theorem ss_retO {w : XWO} (h : SWO te w) : SS (tRet te) (sRetO w) := fun pn F T H σ ρ o D st e q => by
  obtain ⟨⟨d, ρ1⟩, h1, e⟩ := bind_some e
  cases e
  exact h pn F T H σ ρ d ρ1 st h1 _ fun v A T' H' st' nd off fr vis ow => q v A σ T' H' st' nd off fr vis ow
theorem ss_if (hc : SWT ct c) (hx : SS t x) (hy : SS u y) : SS (tIfS ct t u) (sIf c x y) := fun pn F T H σ ρ o D st e q => by
  obtain ⟨⟨k, ρ1⟩, h1, e⟩ := bind_some e
  refine hc pn F T H σ ρ k ρ1 st h1 _ fun T1 H1 st1 s1 => ?_
  cases k with
  | true => exact hx pn F T1 H1 σ ρ1 o D st1 e (q.step s1)
  | false => exact hy pn F T1 H1 σ ρ1 o D st1 e (q.step s1)
theorem ss_asg {g : TG} {xg : XG} {vs : List Nat} (hg : SG false g xg vs) (h : SW te w) : SS (tAsg te g) (sAsg xg w) := fun pn F T H σ ρ o D st e q => by
  obtain ⟨⟨d, ρ1⟩, h1, e⟩ := bind_some e
  obtain ⟨ρ2, h2, e⟩ := bind_some e
  cases e
  exact h pn F T H σ ρ d ρ1 st h1 _ fun v T1 H1 st1 s1 rv => hg pn F T1 H1 σ v d ρ1 ρ2 st1 h2 (.inl rv) _ fun σ' T' st' s' _ => q σ' T' H1 st' (s1.trans s')
theorem ss_own {i : Nat} {w : XWO} (hi : i ≠ 0) (h : SWO te w) : SS (tAsg te (gName i)) (sOwn i w) := fun pn F T H σ ρ o D st e q => by
  obtain ⟨⟨cs, ρ1⟩, h1, e⟩ := bind_some e
  by_cases c : i < ρ1.length
  · rw [if_pos c] at e
    cases e
    refine h pn F T H σ ρ cs ρ1 st h1 _ fun v A T' H' st' nd off fr vis ow => ?_
    obtain ⟨st2, vis2⟩ := st'.own hi c ow nd off
    exact q _ _ H' st2 ⟨fr, vis.trans vis2⟩
  · rw [if_neg c] at e; cases e
theorem StOk.cel {pn : Pn} {F : Hs} {T : Trs} {H : Hp} {σ : L2.St} {ρ : Env} {i : Nat} {v : V} {c : Cel} {B : List Addr} (hi : i ≠ 0) (hl : i < ρ.length) (st : StOk pn (FL F B) T H σ ρ) (nd : B.Nodup) (off : ∀ x ∈ B, ¬ F x) (hc : Cels (hid (SF (FL F B) T) H) H [v] [c] B) :
    ∃ T', StOk pn F T' H (σ.set i (some v)) (ρ.set i (toSl c)) ∧ Ex (hid (SF (FL F B) T) H) (hid (SF F T') H) := by
  cases hc with
  | dat r n =>
    cases n
    rw [FL_nil] at st r ⊢
    obtain ⟨st', s⟩ := st.set hi r
    exact ⟨_, st', s.vis⟩
  | sub hb r n =>
    cases n
    obtain ⟨st', vis⟩ := st.own (i := i) hi hl ⟨_, _, [], rfl, hb, Cels.dats r, rfl⟩ nd off
    exact ⟨_, st', vis⟩
  | hal o n =>
    cases n
    rw [List.append_nil] at *
    obtain ⟨st', vis⟩ := st.halN (i := i) hi hl (Nat.le_refl 1000) o nd off
    exact ⟨_, st', vis⟩
theorem ss_par {i j : Nat} {ts : TA} {as : XWC} (hi : i ≠ 0) (hj : j ≠ 0) (hs : SWC ts as) : SS (tPar i j ts) (sPar i j as) := fun pn F T H σ ρ o D st e q => by
  obtain ⟨⟨cs, ρ1⟩, h1, e⟩ := bind_some e
  obtain ⟨⟨c, d⟩, h2, e⟩ := bind_some e
  have ec : cs = _ := two_eq h2
  subst ec
  · skip
    by_cases hl : i < ρ1.length ∧ j < ρ1.length
    · rw [if_pos hl] at e
      cases e
      refine hs pn F T H σ ρ _ ρ1 st h1 _ fun vs B T1 H1 st1 nd off fr vis hc => ?_
      obtain ⟨v, w, rfl⟩ : ∃ v w, vs = [v, w] := by
        have := hc.length
        match vs, this with
        | [v, w], _ => exact ⟨v, w, rfl⟩
      refine ⟨v, w, rfl, ?_⟩
      -- split the addresses
      have split : ∃ B1 B2, B = B1 ++ B2 ∧ Cels (hid (SF (FL F B) T1) H1) H1 [v] [c] B1 ∧ Cels (hid (SF (FL F B) T1) H1) H1 [w] [d] B2 := by
        cases hc with
        | dat r n => exact ⟨[], B, rfl, .dat r .nil, n⟩
        | sub hb r n => exact ⟨[_], _, rfl, .sub hb r .nil, n⟩
        | hal o n => exact ⟨_, _, rfl, by simpa using Cels.hal o Cels.nil, n⟩
      obtain ⟨B1, B2, rfl, c1, c2⟩ := split
      have eF : FL F (B1 ++ B2) = FL (FL F B2) B1 := by rw [FL_app]; exact FL_perm fun x => by simp [or_comm]
      rw [eF] at st1 c1 c2 vis
      have nds := List.nodup_append.mp nd
      obtain ⟨T2, st2, vis2⟩ := StOk.cel (F := FL F B2) hi hl.1 st1 nds.1 (fun x hx z => z.elim (off x (List.mem_append_left _ hx)) fun z => nds.2.2 x hx x z rfl) c1
      have c2' := c2.mv vis2 fun x hx => (rfl : H1 x = H1 x)
      obtain ⟨T3, st3, vis3⟩ := StOk.cel (F := F) hj (by rw [List.length_set]; exact hl.2) st2 nds.2.1 (fun x hx => off x (List.mem_append_right _ hx)) c2'
      exact q _ T3 H1 st3 ⟨fr, (vis.trans vis2).trans vis3⟩
    · rw [if_neg hl] at e; cases e
end
section
variable {G H : Hp}
theorem Cels.snoc : ∀ {vs : List V} {cs : List Cel} {B : List Addr} {v : V} {d : PD}, Cels G H vs cs B → Rp G v d → Cels G H (vs ++ [v]) (cs ++ [.dat d]) B
  | _, _, _, _, _, .nil, r => .dat r .nil
  | _, _, _, _, _, .dat h c, r => .dat h (c.snoc r)
  | _, _, _, _, _, .sub h1 h2 c, r => .sub h1 h2 (c.snoc r)
  | _, _, _, _, _, .hal o c, r => .hal o (c.snoc r)
theorem Cels.app : ∀ {vs us : List V} {cs : List Cel} {ds : List PD} {B : List Addr}, Cels G H vs cs B → RpAll G us ds → Cels G H (vs ++ us) (cs ++ ds.map Cel.dat) B
  | _, _, _, _, _, .nil, r => Cels.dats r
  | _, _, _, _, _, .dat h c, r => .dat h (c.app r)
  | _, _, _, _, _, .sub h1 h2 c, r => .sub h1 h2 (c.app r)
  | _, _, _, _, _, .hal o c, r => .hal o (c.app r)
theorem Cels.ins : ∀ (n : Nat) {vs : List V} {cs : List Cel} {B : List Addr} {v : V} {d : PD}, Cels G H vs cs B → Rp G v d → Cels G H (vs.take n ++ [v] ++ vs.drop n) (cs.take n ++ [.dat d] ++ cs.drop n) B
  | 0, _, _, _, _, _, c, r => by simpa using Cels.dat r c
  | n + 1, _, _, _, _, _, .nil, r => by simpa using Cels.dat r .nil
  | n + 1, _, _, _, _, _, .dat h c, r => by simpa using Cels.dat h (c.ins n r)
  | n + 1, _, _, _, _, _, .sub h1 h2 c, r => by simpa using Cels.sub h1 h2 (c.ins n r)
  | n + 1, _, _, _, _, _, .hal o c, r => by simpa using Cels.hal o (c.ins n r)
theorem Cels.set : ∀ (n : Nat) {vs : List V} {cs : List Cel} {B : List Addr} {v : V} {d d0 : PD}, Cels G H vs cs B → cs[n]? = some (.dat d0) → Rp G v d → Cels G H (vs.set n v) (cs.set n (.dat d)) B
  | _, _, _, _, _, _, _, .nil, h, _ => by simp at h
  | 0, _, _, _, _, _, _, .dat _ c, _, r => by simpa using Cels.dat r c
  | 0, _, _, _, _, _, _, .sub _ _ c, h, r => by simp at h
  | 0, _, _, _, _, _, _, .hal _ c, h, r => by simp at h
  | n + 1, _, _, _, _, _, _, .dat h0 c, h, r => by simpa using Cels.dat h0 (c.set n (by simpa using h) r)
  | n + 1, _, _, _, _, _, _, .sub h1 h2 c, h, r => by simpa using Cels.sub h1 h2 (c.set n (by simpa using h) r)
  | n + 1, _, _, _, _, _, _, .hal o c, h, r => by simpa using Cels.hal o (c.set n (by simpa using h) r)
theorem Cels.inner : ∀ (n : Nat) {vs : List V} {cs : List Cel} {B : List Addr} {ds : List PD}, Cels G H vs cs B → B.Nodup → cs[n]? = some (.sub ds) → ∃ b ws, vs[n]? = some (.ref b) ∧ b ∈ B ∧ H b = some (.lst ws) ∧ RpAll G ws ds ∧
    ∀ (ws' : List V) (ds' : List PD), RpAll G ws' ds' → Cels G (upd H b (.lst ws')) vs (cs.set n (.sub ds')) B
  | _, _, _, _, _, .nil, _, h => by simp at h
  | 0, _, _, _, _, .dat _ c, _, h => by simp at h
  | 0, _, _, _, _, .hal _ c, _, h => by simp at h
  | n + 1, _, _, _, _, .hal (A := A0) o c, nd, h => by
    have nds := List.nodup_append.mp nd
    obtain ⟨b, ws, e1, e2, e3, e4, f⟩ := c.inner n nds.2.1 (by simpa using h)
    exact ⟨b, ws, by simpa using e1, List.mem_append_right _ e2, e3, e4, fun ws' ds' r' => by simpa using Cels.hal (o.mv (Ex.refl _) fun x hx => upd_ne fun z => nds.2.2 x hx b e2 z) (f ws' ds' r')⟩
  | 0, _, _, _, _, .sub (b := b) hb r c, nd, h => by
    cases Option.some.inj (show some (Cel.sub _) = some (Cel.sub _) from h)
    refine ⟨_, _, rfl, List.mem_cons_self .., hb, r, fun ws' ds' r' => ?_⟩
    have hn := (List.nodup_cons.mp nd).1
    simpa using Cels.sub upd_same r' (c.mv (Ex.refl _) fun x hx => upd_ne fun z => hn (by rw [← z]; exact hx))
  | n + 1, _, _, _, _, .dat h0 c, nd, h => by
    obtain ⟨b, ws, e1, e2, e3, e4, f⟩ := c.inner n nd (by simpa using h)
    exact ⟨b, ws, by simpa using e1, e2, e3, e4, fun ws' ds' r' => by simpa using Cels.dat h0 (f ws' ds' r')⟩
  | n + 1, _, _, _, _, .sub (b := b0) h1 h2 c, nd, h => by
    obtain ⟨hn, nd'⟩ := List.nodup_cons.mp nd
    obtain ⟨b, ws, e1, e2, e3, e4, f⟩ := c.inner n nd' (by simpa using h)
    exact ⟨b, ws, by simpa using e1, List.mem_cons_of_mem _ e2, e3, e4, fun ws' ds' r' => by simpa using Cels.sub (by rw [upd_ne fun z => hn (by rw [z]; exact e2)]; exact h1) h2 (f ws' ds' r')⟩
end
section
variable {pn : Pn} {F : Hs} {T : Trs} {H : Hp} {σ : L2.St} {ρ : Env}
theorem StOk.writeSub (st : StOk pn F T H σ ρ) {i n : Nat} {cs : List Cel} {ds ds' : List PD} (hi : ρ[i]? = some (.own cs)) (hn : cs[n]? = some (.sub ds)) : ∃ a vs b ws, σ[i]? = some (some (.ref a)) ∧ H a = some (.lst vs) ∧ vs[n]? = some (.ref b) ∧ vs.length = cs.length ∧ H b = some (.lst ws) ∧ RpAll (hid (SF F T) H) ws ds ∧
    ∀ ws' ds', RpAll (hid (SF F T) H) ws' ds' → StOk pn F T (upd H b (.lst ws')) σ (ρ.set i (.own (cs.set n (.sub ds')))) ∧ Stp F T H T (upd H b (.lst ws')) := by
  obtain ⟨a, vs, B, h1, h2, h3, h4⟩ := st.at_own hi
  have ndA := st.nd i
  rw [h4] at ndA
  obtain ⟨haB, ndB⟩ := List.nodup_cons.mp ndA
  obtain ⟨b, ws, e1, e2, e3, e4, f⟩ := h3.inner n ndB hn
  refine ⟨a, vs, b, ws, h1, h2, e1, h3.length, e3, e4, fun ws' ds' r' => ?_⟩
  have hb : b ∈ T i := by rw [h4]; exact List.mem_cons_of_mem _ e2
  have hS : SF F T b := .inr ⟨i, hb⟩
  have vis : Ex (hid (SF F T) H) (hid (SF F T) (upd H b (.lst ws'))) := fun x o h => by
    obtain ⟨c, h⟩ := hid_some h
    rw [hid_out c, upd_ne (fun z => c (by rw [z]; exact hS))]
    exact h
  have ne : ∀ x, x ≠ b → upd H b (.lst ws') x = H x := fun x h => upd_ne h
  refine ⟨⟨by rw [List.length_set]; exact st.len, fun x h => ?_, st.off, st.dis, st.nd, fun j hj => st.out j (by rw [List.length_set] at hj; exact hj), fun j q hq => ?_, st.pin⟩, ⟨fun x h => ne x fun z => st.off i b hb (by rw [← z]; exact h), vis⟩⟩
  · rw [ne x fun z => st.off i b hb (by rw [← z]; exact h)]
    exact st.al x h
  · by_cases c : i = j
    · subst c
      have hl : i < ρ.length := (List.getElem?_eq_some_iff.mp hi).1
      rw [List.getElem?_set_self hl] at hq
      cases hq
      refine ⟨_, h1, .ref a, rfl, a, vs, B, rfl, by rw [ne a fun z => haB (by rw [z]; exact e2)]; exact h2, (f ws' ds' r').mv vis fun x _ => rfl, h4⟩
    · rw [List.getElem?_set_ne c] at hq
      obtain ⟨o', h5, h6⟩ := st.sl j q hq
      exact ⟨o', h5, h6.mv vis fun x hx => ne x fun z => c (st.dis i j b hb (by rw [← z]; exact hx))⟩
end
def sApp (i : Nat) (a : XW) : XS := fun ρ => (ownAt ρ i).bind fun _ => (a ρ).bind fun x => (ownAt x.2 i).bind fun cs => if cs.length < 100000 then some (.nxt (x.2.set i (.own (cs ++ [.dat x.1])))) else none
def sExt (i : Nat) (a : XW) : XS := fun ρ => (ownAt ρ i).bind fun _ => (a ρ).bind fun x => (asList x.1).bind fun ds => (ownAt x.2 i).bind fun cs => if cs.length + ds.length ≤ 100000 then some (.nxt (x.2.set i (.own (cs ++ ds.map Cel.dat)))) else none
def isI : PD → Option Int
  | .int i => some i
  | _ => none
theorem isI_eq {d : PD} {i : Int} (h : isI d = some i) : d = .int i := by
  cases d with
  | int c => cases h; rfl
  | _ => cases h
def insA : List PD → Option (Int × PD)
  | [.int k, d] => some (k, d)
  | _ => none
theorem insA_eq {ds : List PD} {k : Int} {d : PD} (h : insA ds = some (k, d)) : ds = [.int k, d] := by
  unfold insA at h
  split at h
  · cases h; rfl
  · cases h
def sIns (i : Nat) (as : XWA) : XS := fun ρ => (ownAt ρ i).bind fun _ => (as ρ).bind fun x => (insA x.1).bind fun kd => (ownAt x.2 i).bind fun cs => if cs.length < 100000 ∧ 0 ≤ kd.1 ∧ kd.1 < 2 ^ 63 then some (.nxt (x.2.set i (.own (cs.take kd.1.toNat ++ [.dat kd.2] ++ cs.drop kd.1.toNat)))) else none
def datAt (cs : List Cel) (n : Nat) : Option PD := match cs[n]? with
  | some (.dat d) => some d
  | _ => none
theorem datAt_eq {cs : List Cel} {n : Nat} {d : PD} (h : datAt cs n = some d) : cs[n]? = some (.dat d) := by
  unfold datAt at h
  split at h
  · rename_i e; cases h; exact e
  · cases h
def subAt (cs : List Cel) (n : Nat) : Option (List PD) := match cs[n]? with
  | some (.sub d) => some d
  | _ => none
theorem subAt_eq {cs : List Cel} {n : Nat} {d : List PD} (h : subAt cs n = some d) : cs[n]? = some (.sub d) := by
  unfold subAt at h
  split at h
  · rename_i e; cases h; exact e
  · cases h
def sSet (i : Nat) (k : XE) (a : XW) : XS := fun ρ => (a ρ).bind fun x => (ownAt x.2 i).bind fun cs => ((k (vw x.2)).bind isI).bind fun k => (ixN cs.length k).bind fun n => (datAt cs n).bind fun _ => some (.nxt (x.2.set i (.own (cs.set n (.dat x.1)))))
def sSetS (i : Nat) (k j : XE) (a : XW) : XS := fun ρ => (a ρ).bind fun x => (ownAt x.2 i).bind fun cs => ((k (vw x.2)).bind isI).bind fun k => (ixN cs.length k).bind fun n => (subAt cs n).bind fun ds => ((j (vw x.2)).bind isI).bind fun j => (ixN ds.length j).bind fun m => some (.nxt (x.2.set i (.own (cs.set n (.sub (ds.set m x.1))))))
def sPopS (i : Nat) (k j : XE) : XS := fun ρ => (ownAt ρ i).bind fun cs => ((k (vw ρ)).bind isI).bind fun k => (ixN cs.length k).bind fun n => (subAt cs n).bind fun ds => ((j (vw ρ)).bind isI).bind fun j => if -(2 ^ 63) ≤ j ∧ j < 2 ^ 63 then (ixN ds.length j).bind fun m => some (.nxt (ρ.set i (.own (cs.set n (.sub (ds.eraseIdx m)))))) else none
section
variable {te tk tj : TE} {w : XW} {k j : XE}
theorem RpAll.erase {G : Hp} : ∀ {vs : List V} {ds : List PD} (n : Nat), RpAll G vs ds → RpAll G (vs.eraseIdx n) (ds.eraseIdx n)
  | _, _, _, .nil => by simpa using RpAll.nil
  | _, _, 0, .cons _ r => by simpa using r
  | _, _, n + 1, .cons h r => by simpa using RpAll.cons h (r.erase n)
theorem ss_app {i : Nat} (h : SW te w) : SS (tDrop (tBM K "list" rAppend (tVar i) (tCons te tNil))) (sApp i w) := fun pn F T H σ ρ o D st e q => by
  obtain ⟨c0, h0, e⟩ := bind_some e
  obtain ⟨⟨d, ρ1⟩, h1, e⟩ := bind_some e
  obtain ⟨cs, h2, e⟩ := bind_some e
  by_cases hl : cs.length < 100000
  · rw [if_pos hl] at e
    cases e
    obtain ⟨a, vs, B, ha, hv, _⟩ := st.at_own (ownAt_eq h0)
    refine ⟨.ref a, ha, .inl ⟨rfl, _, .inl (.inl hv)⟩, h pn F T H σ ρ d ρ1 st h1 _ fun v T1 H1 st1 s1 rv => ?_⟩
    obtain ⟨a', vs', B', ha', hv', hc', hT⟩ := st1.at_own (ownAt_eq h2)
    have ea : a' = a := by rw [ha'] at ha; cases ha; rfl
    subst ea
    obtain ⟨st2, s2⟩ := st1.write (ownAt_eq h2) hT ha' (hc'.snoc rv)
    exact ⟨a', vs', v, rfl, rfl, hv', by rw [hc'.length]; exact Evl.sz_lt hl, q σ T1 _ st2 (s1.trans s2)⟩
  · rw [if_neg hl] at e; cases e
theorem ss_ext {i : Nat} (h : SW te w) : SS (tDrop (tBM K "list" rExtend (tVar i) (tCons te tNil))) (sExt i w) := fun pn F T H σ ρ o D st e q => by
  obtain ⟨c0, h0, e⟩ := bind_some e
  obtain ⟨⟨d, ρ1⟩, h1, e⟩ := bind_some e
  obtain ⟨ds, hd, e⟩ := bind_some e
  obtain ⟨cs, h2, e⟩ := bind_some e
  by_cases hl : cs.length + ds.length ≤ 100000
  · rw [if_pos hl] at e
    cases e
    have ed : d = .list ds := asList_eq hd
    subst ed
    obtain ⟨a, vs, B, ha, hv, _⟩ := st.at_own (ownAt_eq h0)
    refine ⟨.ref a, ha, .inl ⟨rfl, _, .inl (.inl hv)⟩, h pn F T H σ ρ _ ρ1 st h1 _ fun v T1 H1 st1 s1 rv => ?_⟩
    obtain ⟨a', vs', B', ha', hv', hc', hT⟩ := st1.at_own (ownAt_eq h2)
    have ea : a' = a := by rw [ha'] at ha; cases ha; rfl
    subst ea
    cases rv with
    | lst hb rb =>
      obtain ⟨st2, s2⟩ := st1.write (ownAt_eq h2) hT ha' (hc'.app rb)
      exact ⟨a', _, vs', _, rfl, rfl, hv', hid_le _ _ hb, by rw [hc'.length, rb.length]; exact Evl.sz_of hl, q σ T1 _ st2 (s1.trans s2)⟩
  · rw [if_neg hl] at e; cases e
abbrev rInsQ : V → List V → Hp → VK → Prop := fun x vs H Q => ∃ (l : Addr) (xs : List V) (i : Int) (y : V), x = .ref l ∧ vs = [.int i, y] ∧ H l = some (.lst xs) ∧ xs.length < sizeLine ∧ 0 ≤ i ∧ i < 2 ^ 63 ∧
  Q .non (upd H l (.lst (xs.take i.toNat ++ [y] ++ xs.drop i.toNat)))
theorem ss_ins {i : Nat} {ts : TA} {as : XWA} (h : SWA ts as) : SS (tDrop (tBM K "list" rInsQ (tVar i) ts)) (sIns i as) := fun pn F T H σ ρ o D st e q => by
  obtain ⟨c0, h0, e⟩ := bind_some e
  obtain ⟨⟨xs, ρ1⟩, h1, e⟩ := bind_some e
  obtain ⟨⟨kk, d⟩, hd, e⟩ := bind_some e
  obtain ⟨cs, h2, e⟩ := bind_some e
  by_cases hl : cs.length < 100000 ∧ 0 ≤ kk ∧ kk < 2 ^ 63
  · rw [if_pos hl] at e
    cases e
    have ed : xs = _ := insA_eq hd
    subst ed
    obtain ⟨a, vs, B, ha, hv, _⟩ := st.at_own (ownAt_eq h0)
    refine ⟨.ref a, ha, .inl ⟨rfl, _, .inl (.inl hv)⟩, h pn F T H σ ρ _ ρ1 st h1 _ fun us T1 H1 st1 s1 rv => ?_⟩
    obtain ⟨a', vs', B', ha', hv', hc', hT⟩ := st1.at_own (ownAt_eq h2)
    have ea : a' = a := by rw [ha'] at ha; cases ha; rfl
    subst ea
    cases rv with
    | cons g1 t =>
      cases t with
      | cons g2 t =>
        cases t
        cases g1
        obtain ⟨st2, s2⟩ := st1.write (ownAt_eq h2) hT ha' (hc'.ins kk.toNat g2)
        exact ⟨a', vs', kk, _, rfl, rfl, hv', by rw [hc'.length]; exact Evl.sz_lt hl.1, hl.2.1, hl.2.2, q σ T1 _ st2 (s1.trans s2)⟩
  · rw [if_neg hl] at e; cases e
theorem ss_set {i : Nat} (hk : SE tk k) (h : SW te w) : SS (tAsg te (gSub (tVar i) tk rSetL)) (sSet i k w) := fun pn F T H σ ρ o D st e q => by
  obtain ⟨⟨d, ρ1⟩, h1, e⟩ := bind_some e
  obtain ⟨cs, h2, e⟩ := bind_some e
  obtain ⟨kk, h3, e⟩ := bind_some e
  obtain ⟨dk, h3, h4⟩ := bind_some h3
  obtain ⟨n, hn, e⟩ := bind_some e
  obtain ⟨d0, hd, e⟩ := bind_some e
  cases e
  have ed : dk = _ := isI_eq h4
  subst ed
  refine h pn F T H σ ρ d ρ1 st h1 _ fun v T1 H1 st1 s1 rv => ?_
  obtain ⟨a', vs', B', ha', hv', hc', hT⟩ := st1.at_own (ownAt_eq h2)
  refine ⟨.ref a', ha', hk _ _ h3 F σ H1 st1.al st1.vw _ fun vk H2 e2 rk => ?_⟩
  cases rk
  have st2 := st1.ex e2
  have s2 : Stp F T1 H1 T1 H2 := Stp.ex st1.al e2
  obtain ⟨a2, vs2, B2, ha2, hv2, hc2, hT2⟩ := st2.at_own (ownAt_eq h2)
  have ea : a2 = a' := by rw [ha2] at ha'; cases ha'; rfl
  subst ea
  obtain ⟨st3, s3⟩ := st2.write (ownAt_eq h2) hT2 ha2 (hc2.set n (datAt_eq hd) (rv.ex s2.vis))
  exact ⟨a2, vs2, kk, n, rfl, rfl, hv2, by rw [hc2.length]; exact hn, q σ T1 _ st3 ((s1.trans s2).trans s3)⟩
theorem ix_sub {pn : Pn} {F : Hs} {T : Trs} {H : Hp} {σ : L2.St} {ρ : Env} (st : StOk pn F T H σ ρ) {i n : Nat} {cs : List Cel} {ds : List PD} {kk : Int} (hi : ρ[i]? = some (.own cs)) (hn : ixN cs.length kk = some n) (hs : cs[n]? = some (.sub ds)) (hk : SE tk k) (h3 : k (vw ρ) = some (.int kk)) {Q : VK}
    (q : ∀ b H2, Ex H H2 → (∃ a vs, σ[i]? = some (some (.ref a)) ∧ H2 a = some (.lst vs) ∧ vs[n]? = some (.ref b)) → Q (.ref b) H2) : tOp (rIx K) (tVar i) tk σ H Q := by
  obtain ⟨a, vs, b, ws, g1, g2, g3, g4, g5, g6, f⟩ := st.writeSub (ds' := ds) hi hs
  refine ⟨.ref a, g1, hk _ _ h3 F σ H st.al st.vw _ fun vk H2 e2 rk => ?_⟩
  cases rk
  refine .inl ⟨a, vs, kk, .ref b, rfl, rfl, .inl (.inl (e2 _ _ g2)), ?_, q b H2 e2 ⟨a, vs, g1, e2 _ _ g2, g3⟩⟩
  unfold atI
  rw [g4, hn]
  exact g3
theorem ss_setS {i : Nat} (hk : SE tk k) (hj : SE tj j) (h : SW te w) : SS (tAsg te (gSub (tOp (rIx K) (tVar i) tk) tj rSetL)) (sSetS i k j w) := fun pn F T H σ ρ o D st e q => by
  obtain ⟨⟨d, ρ1⟩, h1, e⟩ := bind_some e
  obtain ⟨cs, h2, e⟩ := bind_some e
  obtain ⟨kk, h3, e⟩ := bind_some e
  obtain ⟨dk, h3, h4⟩ := bind_some h3
  obtain ⟨n, hn, e⟩ := bind_some e
  obtain ⟨ds, hd, e⟩ := bind_some e
  obtain ⟨jj, h5, e⟩ := bind_some e
  obtain ⟨dj, h5, h6⟩ := bind_some h5
  obtain ⟨m, hm, e⟩ := bind_some e
  cases e
  have ed : dk = _ := isI_eq h4
  subst ed
  have ed : dj = _ := isI_eq h6
  subst ed
  refine h pn F T H σ ρ d ρ1 st h1 _ fun v T1 H1 st1 s1 rv => ?_
  refine ix_sub st1 (ownAt_eq h2) hn (subAt_eq hd) hk h3 fun b H2 e2 hb => ?_
  have st2 := st1.ex e2
  have s2 : Stp F T1 H1 T1 H2 := Stp.ex st1.al e2
  refine hj _ _ h5 F σ H2 st2.al st2.vw _ fun vj H3 e3 rj => ?_
  cases rj
  have st3 := st2.ex e3
  have s3 : Stp F T1 H2 T1 H3 := Stp.ex st2.al e3
  obtain ⟨a, vs, b', ws, g1, g2, g3, g4, g5, g6, f⟩ := st3.writeSub (ds' := ds) (ownAt_eq h2) (subAt_eq hd)
  obtain ⟨a2, vs2, k1, k2, k3⟩ := hb
  have ea : a2 = a := by rw [k1] at g1; cases g1; rfl
  subst ea
  have ev : vs2 = vs := by have := e3 _ _ k2; rw [this] at g2; cases g2; rfl
  subst ev
  have eb : b' = b := by rw [k3] at g3; cases g3; rfl
  subst eb
  obtain ⟨st4, s4⟩ := f (ws.set m v) (ds.set m d) (g6.set m ((rv.ex s2.vis).ex s3.vis))
  exact ⟨b', ws, jj, m, rfl, rfl, g5, by rw [g6.length]; exact hm, q σ T1 _ st4 (((s1.trans s2).trans s3).trans s4)⟩
theorem ss_popS {i : Nat} (hk : SE tk k) (hj : SE tj j) : SS (tDrop (tBM K "list" rPopAt (tOp (rIx K) (tVar i) tk) (tCons tj tNil))) (sPopS i k j) := fun pn F T H σ ρ o D st e q => by
  obtain ⟨cs, h2, e⟩ := bind_some e
  obtain ⟨kk, h3, e⟩ := bind_some e
  obtain ⟨dk, h3, h4⟩ := bind_some h3
  obtain ⟨n, hn, e⟩ := bind_some e
  obtain ⟨ds, hd, e⟩ := bind_some e
  obtain ⟨jj, h5, e⟩ := bind_some e
  obtain ⟨dj, h5, h6⟩ := bind_some h5
  by_cases hl : -(2 ^ 63) ≤ jj ∧ jj < 2 ^ 63
  · rw [if_pos hl] at e
    obtain ⟨m, hm, e⟩ := bind_some e
    cases e
    have ed : dk = _ := isI_eq h4
    subst ed
    have ed : dj = _ := isI_eq h6
    subst ed
    refine ix_sub st (ownAt_eq h2) hn (subAt_eq hd) hk h3 fun b H2 e2 hb => ?_
    have st2 := st.ex e2
    have s2 : Stp F T H T H2 := Stp.ex st.al e2
    obtain ⟨a, vs, b', ws, g1, g2, g3, g4, g5, g6, f⟩ := st2.writeSub (ds' := ds) (ownAt_eq h2) (subAt_eq hd)
    obtain ⟨a2, vs2, k1, k2, k3⟩ := hb
    have ea : a2 = a := by rw [k1] at g1; cases g1; rfl
    subst ea
    have ev : vs2 = vs := by rw [k2] at g2; cases g2; rfl
    subst ev
    have eb : b' = b := by rw [k3] at g3; cases g3; rfl
    subst eb
    refine ⟨.inl ⟨rfl, _, .inl (.inl g5)⟩, hj _ _ h5 F σ H2 st2.al st2.vw _ fun vj H3 e3 rj => ?_⟩
    cases rj
    have st3 := st2.ex e3
    have s3 : Stp F T H2 T H3 := Stp.ex st2.al e3
    clear f
    obtain ⟨a7, vs7, b7, ws7, u1, u2, u3, u4, u5, u6, f7⟩ := st3.writeSub (ds' := ds) (ownAt_eq h2) (subAt_eq hd)
    have ea : a7 = a2 := by rw [k1] at u1; cases u1; rfl
    subst ea
    have ev : vs7 = vs2 := by have := e3 _ _ k2; rw [this] at u2; cases u2; rfl
    subst ev
    have eb : b7 = b' := by rw [k3] at u3; cases u3; rfl
    subst eb
    obtain ⟨st4, s4⟩ := f7 (ws7.eraseIdx m) (ds.eraseIdx m) (u6.erase m)
    have hm' : ixN ws7.length jj = some m := by rw [u6.length]; exact hm
    obtain ⟨q1, q2, _, _⟩ := ixN_seq hm'
    exact ⟨b7, ws7, jj, m, ws7[m], rfl, rfl, u5, hl.1, hl.2, q1, List.getElem?_eq_getElem q2, q σ T _ st4 ((s2.trans s3).trans s4)⟩
  · rw [if_neg hl] at e; cases e
end
end Uv

namespace Uv
open PySem PySem.Spec PyProof.Rows L2
open Evl (Ex)
variable [kk : KK]
def forGo (g : XG) (b : XS) : List PD → Env → Option Out
  | [], ρ => some (.nxt ρ)
  | x :: xs, ρ => (g x ρ).bind fun ρ1 => (b ρ1).bind fun o => match o with
    | .nxt ρ2 => forGo g b xs ρ2
    | .cnt ρ2 => forGo g b xs ρ2
    | .brk ρ2 => some (.nxt ρ2)
    | .ret d ρ2 => some (.ret d ρ2)
    | .retO d ρ2 => some (.retO d ρ2)
def sFor (src : XWI) (g : XG) (b : XS) : XS := fun ρ => (src ρ).bind fun x => forGo g b x.1 x.2
theorem ss_for {bb : Bool} {wi : TI} {g : TG} {tb : TS} {vs : List Nat} {src : XWI} {xg : XG} {b : XS} (hs : SWI bb wi src) (hg : SG bb g xg vs) (hb : SS tb b) : SS (tFor wi g tb) (sFor src xg b) := fun pn F T H σ ρ o D st e q => by
  obtain ⟨⟨xs, ρ1⟩, h1, e⟩ := bind_some e
  have e : forGo xg b xs ρ1 = some o := e
  refine hs pn F T H σ ρ xs ρ1 st h1 _ fun J T1 H1 st1 s1 wk => ?_
  refine ⟨fun i m σ' H' => m = xs.length - i ∧ i ≤ xs.length ∧ ∃ T' ρ', StOk pn F T' H' σ' ρ' ∧ Stp F T1 H1 T' H' ∧ forGo xg b (xs.drop i) ρ' = some o, ⟨_, rfl, Nat.zero_le _, T1, ρ1, st1, Stp.refl, e⟩, fun i m σ' H' hw => ?_⟩
  obtain ⟨rfl, hi, T', ρ', st', s', hgo⟩ := hw
  obtain ⟨w1, w2⟩ := wk _ H' s'.vis st'.als
  by_cases hlt : i < xs.length
  · obtain ⟨w3, w4⟩ := w2 i _ (List.getElem?_eq_getElem hlt)
    rw [List.drop_eq_getElem_cons hlt] at hgo
    obtain ⟨ρ2, g1, hgo⟩ := bind_some (show (xg xs[i] ρ').bind _ = some o from hgo)
    obtain ⟨o2, b1, hgo⟩ := bind_some hgo
    refine .inr ⟨w3, fun σ2 H2 => ∃ T2 ρ2, StOk pn F T2 H2 σ2 ρ2 ∧ Stp F T1 H1 T2 H2 ∧ forGo xg b (xs.drop (i + 1)) ρ2 = some o, fun σ2 H2 hn => ⟨_, by omega, rfl, hlt, hn⟩, fun v H3 y => ?_⟩
    obtain ⟨e3, rv⟩ := w4 v H3 y
    have st3 := st'.ex e3
    have s3 : Stp F T' H' T' H3 := Stp.ex st'.al e3
    refine hg pn F T' H3 σ' v _ ρ' ρ2 st3 g1 rv _ fun σ4 T4 st4 s4 _ => ?_
    have s14 := (s'.trans s3).trans s4
    cases o2 with
    | nxt ρ5 => exact hb pn F T4 H3 σ4 ρ2 _ _ st4 b1 fun σ5 T5 H5 st5 s5 => ⟨T5, ρ5, st5, s14.trans s5, hgo⟩
    | cnt ρ5 => exact hb pn F T4 H3 σ4 ρ2 _ _ st4 b1 fun σ5 T5 H5 st5 s5 => ⟨T5, ρ5, st5, s14.trans s5, hgo⟩
    | brk ρ5 =>
      cases hgo
      exact hb pn F T4 H3 σ4 ρ2 _ _ st4 b1 fun σ5 T5 H5 st5 s5 => q σ5 T5 H5 st5 (s1.trans (s14.trans s5))
    | ret d ρ5 =>
      cases hgo
      exact hb pn F T4 H3 σ4 ρ2 _ _ st4 b1 (OutOk.on (fun _ z => nomatch z) (fun _ z => nomatch z) (fun _ z => nomatch z) (q.step (s1.trans s14)))
    | retO d ρ5 =>
      cases hgo
      exact hb pn F T4 H3 σ4 ρ2 _ _ st4 b1 (OutOk.on (fun _ z => nomatch z) (fun _ z => nomatch z) (fun _ z => nomatch z) (q.step (s1.trans s14)))
  · have ei : i = xs.length := by omega
    subst ei
    rw [List.drop_length] at hgo
    cases hgo
    exact .inl ⟨w1, q σ' T' H' st' (s1.trans s')⟩
def whGo (c : XWT) (b : XS) : Nat → Env → Option Out
  | 0, _ => none
  | n + 1, ρ => (c ρ).bind fun k => if k.1 = true then (b k.2).bind fun o => match o with
    | .nxt ρ2 => whGo c b n ρ2
    | .cnt ρ2 => whGo c b n ρ2
    | .brk ρ2 => some (.nxt ρ2)
    | .ret d ρ2 => some (.ret d ρ2)
    | .retO d ρ2 => some (.retO d ρ2)
    else some (.nxt k.2)
def fuel : Nat := 100000
theorem fuel_lt {k : Nat} (h : k < 100000) : k < fuel := h
def sWhile (n : Nat) (c : XWT) (b : XS) : XS := whGo c b n
theorem ss_while {n : Nat} {ct : TT} {tb : TS} {c : XWT} {b : XS} (hc : SWT ct c) (hb : SS tb b) : SS (tWhile ct tb) (sWhile n c b) := fun pn F T H σ ρ o D st e q => by
  refine ⟨fun m σ' H' => ∃ T' ρ', StOk pn F T' H' σ' ρ' ∧ Stp F T H T' H' ∧ whGo c b m ρ' = some o, ⟨n, T, ρ, st, Stp.refl, e⟩, fun m σ' H' hw => ?_⟩
  obtain ⟨T', ρ', st', s', hgo⟩ := hw
  cases m with
  | zero => cases hgo
  | succ m =>
    obtain ⟨⟨k, ρ1⟩, h1, hgo⟩ := bind_some (show (c ρ').bind _ = some o from hgo)
    refine hc pn F T' H' σ' ρ' k ρ1 st' h1 _ fun T1 H1 st1 s1 => ?_
    cases k with
    | false => cases hgo; exact iteF (q σ' T1 H1 st1 (s'.trans s1))
    | true =>
      obtain ⟨o2, b1, hgo⟩ := bind_some (show (b ρ1).bind _ = some o from hgo)
      refine iteT ⟨fun σ2 H2 => ∃ T2 ρ2, StOk pn F T2 H2 σ2 ρ2 ∧ Stp F T H T2 H2 ∧ whGo c b m ρ2 = some o, fun σ2 H2 hn => ⟨m, Nat.lt_succ_self _, hn⟩, ?_⟩
      have s2 := s'.trans s1
      cases o2 with
      | nxt ρ5 => exact hb pn F T1 H1 σ' ρ1 _ _ st1 b1 fun σ5 T5 H5 st5 s5 => ⟨T5, ρ5, st5, s2.trans s5, hgo⟩
      | cnt ρ5 => exact hb pn F T1 H1 σ' ρ1 _ _ st1 b1 fun σ5 T5 H5 st5 s5 => ⟨T5, ρ5, st5, s2.trans s5, hgo⟩
      | brk ρ5 =>
        cases hgo
        exact hb pn F T1 H1 σ' ρ1 _ _ st1 b1 fun σ5 T5 H5 st5 s5 => q σ5 T5 H5 st5 (s2.trans s5)
      | ret d ρ5 =>
        cases hgo
        exact hb pn F T1 H1 σ' ρ1 _ _ st1 b1 (OutOk.on (fun _ z => nomatch z) (fun _ z => nomatch z) (fun _ z => nomatch z) (q.step s2))
      | retO d ρ5 =>
        cases hgo
        exact hb pn F T1 H1 σ' ρ1 _ _ st1 b1 (OutOk.on (fun _ z => nomatch z) (fun _ z => nomatch z) (fun _ z => nomatch z) (q.step s2))
def fzE (ρ : Env) (i : Nat) : Env := match ρ[i]? with
  | some (.own cs) => ρ.set i (.dat (.list (cs.map Cel.pd)))
  | _ => ρ
def sFz (i : Nat) (y : XS) : XS := fun ρ => y (fzE ρ i)
theorem StOk.fz1 {pn : Pn} {F : Hs} {T : Trs} {H : Hp} {σ : L2.St} {ρ : Env} (st : StOk pn F T H σ ρ) (i : Nat) : ∃ T', StOk pn F T' H σ (fzE ρ i) ∧ Stp F T H T' H := by
  unfold fzE
  cases hi : ρ[i]? with
  | none => exact ⟨T, st, Stp.refl⟩
  | some s =>
    cases s with
    | un => exact ⟨T, st, Stp.refl⟩
    | dat d => exact ⟨T, st, Stp.refl⟩
    | dic l => exact ⟨T, st, Stp.refl⟩
    | hal k h => exact ⟨T, st, Stp.refl⟩
    | own cs =>
      have sub : Ex (hid (SF F T) H) (hid (SF F (setT T i [])) H) := hid_sub SF_setT_nil
      have mem : ∀ j x, x ∈ setT T i [] j → x ∈ T j ∧ j ≠ i := fun j x h => by
        by_cases c : j = i
        · subst c; rw [setT_same] at h; cases h
        · rw [setT_ne c] at h; exact ⟨h, c⟩
      refine ⟨setT T i [], ⟨by rw [List.length_set]; exact st.len, st.al, fun j x h => st.off j x (mem j x h).1, fun j k x h h' => st.dis j k x (mem j x h).1 (mem k x h').1, fun j => ?_, fun j hj => ?_, fun j q hq => ?_, st.pin⟩, ⟨fun _ _ => rfl, sub⟩⟩
      · by_cases c : j = i
        · subst c; rw [setT_same]; exact List.nodup_nil
        · rw [setT_ne c]; exact st.nd j
      · rw [List.length_set] at hj
        by_cases c : j = i
        · subst c; rw [setT_same]
        · rw [setT_ne c]; exact st.out j hj
      · by_cases c : i = j
        · subst c
          have hl : i < ρ.length := (List.getElem?_eq_some_iff.mp hi).1
          rw [List.getElem?_set_self hl] at hq
          cases hq
          obtain ⟨o, h1, v, rfl, ow⟩ := st.sl i _ hi
          rw [setT_same]
          refine ⟨_, h1, rfl, v, rfl, ow.rp sub fun x hx => hid_out ?_⟩
          rintro (z | ⟨j, z⟩)
          · exact st.off i x hx z
          · obtain ⟨z1, z2⟩ := mem j x z
            exact z2 (st.dis j i x z1 hx)
        · rw [List.getElem?_set_ne c] at hq
          obtain ⟨o', h1, h2⟩ := st.sl j q hq
          rw [setT_ne (fun z => c z.symm)]
          exact ⟨o', h1, h2.mv sub fun _ _ => rfl⟩
theorem ss_fz {i : Nat} {t : TS} {y : XS} (h : SS t y) : SS t (sFz i y) := fun pn F T H σ ρ o D st e q => by
  obtain ⟨T', st', s'⟩ := st.fz1 i
  exact h pn F T' H σ _ o D st' e (q.step s')
def clearE (ρ : Env) : List Nat → Env
  | [] => ρ
  | v :: vs => (clearE ρ vs).set v .un
def keepD : Option Sl → Sl
  | some (.dat d) => .dat d
  | _ => .un
def backE (ρ1 ρ : Env) : List Nat → Env
  | [] => ρ
  | v :: vs => (backE ρ1 ρ vs).set v (keepD ρ1[v]?)
theorem StOk.clear {pn : Pn} {F : Hs} {H : Hp} {σ : L2.St} {ρ : Env} : ∀ {T : Trs} (vs : List Nat), 0 ∉ vs → StOk pn F T H σ ρ → ∃ T', StOk pn F T' H (wipe σ vs) (clearE ρ vs) ∧ Stp F T H T' H
  | T, [], _, st => ⟨T, st, Stp.refl⟩
  | T, v :: vs, h0, st => by
    obtain ⟨T1, st1, s1⟩ := StOk.clear vs (fun z => h0 (List.mem_cons_of_mem _ z)) st
    obtain ⟨st2, s2⟩ := st1.drop (i := v) (o := none) (s := .un) (fun z => h0 (by rw [z]; exact List.mem_cons_self ..)) rfl
    exact ⟨_, st2, s1.trans s2⟩
theorem clearE_len {ρ : Env} : ∀ vs : List Nat, (clearE ρ vs).length = ρ.length
  | [] => rfl
  | v :: vs => by unfold clearE; rw [List.length_set, clearE_len vs]
theorem backE_len {ρ1 ρ : Env} : ∀ vs : List Nat, (backE ρ1 ρ vs).length = ρ.length
  | [] => rfl
  | v :: vs => by unfold backE; rw [List.length_set, backE_len vs]
theorem clearE_off {ρ : Env} {i : Nat} : ∀ {vs : List Nat}, i ∉ vs → (clearE ρ vs)[i]? = ρ[i]?
  | [], _ => rfl
  | v :: vs, h => by
    unfold clearE
    rw [List.getElem?_set_ne (fun z => h (by rw [← z]; exact List.mem_cons_self ..))]
    exact clearE_off fun z => h (List.mem_cons_of_mem _ z)
theorem clearE_at {ρ : Env} {i : Nat} : ∀ {vs : List Nat}, i ∈ vs → i < ρ.length → (clearE ρ vs)[i]? = some .un
  | v :: vs, h, hl => by
    unfold clearE
    by_cases c : v = i
    · subst c; exact List.getElem?_set_self (by rw [clearE_len]; exact hl)
    · rw [List.getElem?_set_ne c]
      exact clearE_at ((List.mem_cons.mp h).resolve_left fun z => c z.symm) hl
theorem backE_off {ρ1 ρ : Env} {i : Nat} : ∀ {vs : List Nat}, i ∉ vs → (backE ρ1 ρ vs)[i]? = ρ[i]?
  | [], _ => rfl
  | v :: vs, h => by
    unfold backE
    rw [List.getElem?_set_ne (fun z => h (by rw [← z]; exact List.mem_cons_self ..))]
    exact backE_off fun z => h (List.mem_cons_of_mem _ z)
theorem backE_at {ρ1 ρ : Env} {i : Nat} : ∀ {vs : List Nat}, i ∈ vs → i < ρ.length → (backE ρ1 ρ vs)[i]? = some (keepD ρ1[i]?)
  | v :: vs, h, hl => by
    unfold backE
    by_cases c : v = i
    · subst c; exact List.getElem?_set_self (by rw [backE_len]; exact hl)
    · rw [List.getElem?_set_ne c]
      exact backE_at ((List.mem_cons.mp h).resolve_left fun z => c z.symm) hl
def wlGo (g : XG) (t : XWT) (e : XW) (vs : List Nat) : List PD → Env → Option (List PD × Env)
  | [], ρ => some ([], ρ)
  | x :: xs, ρ => (g x (clearE ρ vs)).bind fun ρ1 => (t ρ1).bind fun b => if b.1 = true then (e b.2).bind fun d => (wlGo g t e vs xs d.2).bind fun r => some (d.1 :: r.1, r.2) else wlGo g t e vs xs b.2
def wLc (src : XWI) (g : XG) (t : XWT) (e : XW) (vs : List Nat) : XWO := fun ρ => (src ρ).bind fun x => if x.1.length ≤ 40000 then (wlGo g t e vs x.1 x.2).bind fun r => some (r.1.map Cel.dat, backE x.2 r.2 vs) else none
theorem wl_step {g : XG} {t : XWT} {e : XW} {vs : List Nat} {ρ : Env} {x : PD} {xs : List PD} {r : List PD × Env} (h : wlGo g t e vs (x :: xs) ρ = some r) : ∃ ρ1 b ρ2, g x (clearE ρ vs) = some ρ1 ∧ t ρ1 = some (b, ρ2) ∧ ((b = true ∧ ∃ d ρ3 r', e ρ2 = some (d, ρ3) ∧ wlGo g t e vs xs ρ3 = some r' ∧ r = (d :: r'.1, r'.2)) ∨ (b = false ∧ wlGo g t e vs xs ρ2 = some r)) := by
  obtain ⟨ρ1, h1, h⟩ := bind_some (show (g x (clearE ρ vs)).bind _ = some r from h)
  obtain ⟨⟨b, ρ2⟩, h2, h⟩ := bind_some h
  refine ⟨ρ1, b, ρ2, h1, h2, ?_⟩
  cases b with
  | true =>
    obtain ⟨⟨d, ρ3⟩, h3, h⟩ := bind_some (show (e ρ2).bind _ = some r from h)
    obtain ⟨r', h4, h⟩ := bind_some h
    cases h
    exact .inl ⟨rfl, d, ρ3, r', h3, h4, rfl⟩
  | false => exact .inr ⟨rfl, h⟩
theorem swo_lc {b : Bool} {wi : TI} {g : TG} {tt : TT} {te : TE} {vs us : List Nat} {src : XWI} {xg : XG} {t : XWT} {e : XW} (hs : SWI b wi src) (hg : SG b g xg us) (hu : ∀ i ∈ us, i ∈ vs) (h0 : 0 ∉ vs) (ht : SWT tt t) (he : SW te e) : SWO (tLc wi g tt te vs) (wLc src xg t e vs) := fun pn F T H σ ρ cs ρ' st hh Q q => by
  obtain ⟨⟨xs, ρ1⟩, h1, hh⟩ := bind_some hh
  by_cases hz : xs.length ≤ 40000
  · rw [if_pos hz] at hh
    obtain ⟨r, h2, hh⟩ := bind_some hh
    have h2 : wlGo xg t e vs xs ρ1 = some r := h2
    cases hh
    refine hs pn F T H σ ρ xs ρ1 st h1 _ fun J T1 H1 st1 s1 wk D hD => ?_
    have alD : ∀ {H' : Hp} {v : HO}, H' D = some v → H' D ≠ none := fun e z => by rw [e] at z; cases z
    obtain ⟨st2, vis2⟩ := st1.fresh (Ex.new (o := .lst []) hD) hD (by rw [upd_same]; exact fun z => nomatch z)
    obtain ⟨T3, st3, s3⟩ := st2.clear vs h0
    have npF : ∀ x, F x → x ≠ D := fun x hx z => by
      have := st1.al x hx
      rw [z, hD] at this
      exact this rfl
    refine ⟨fun i m H' => m = xs.length - i ∧ i ≤ xs.length ∧ ∃ T' ρ' acc ds1 r', StOk pn (FL F [D]) T' H' (wipe σ vs) (clearE ρ' vs) ∧ ρ'.length = ρ1.length ∧ (∀ x, F x → H' x = H1 x) ∧ Ex (hid (SF F T1) H1) (hid (SF (FL F [D]) T') H') ∧ H' D = some (.lst acc) ∧ acc.length ≤ i ∧ RpAll (hid (SF (FL F [D]) T') H') acc ds1 ∧ wlGo xg t e vs (xs.drop i) ρ' = some r' ∧ r = (ds1 ++ r'.1, r'.2),
      ⟨_, rfl, Nat.zero_le _, T3, ρ1, [], [], r, st3, rfl, fun x hx => upd_ne (npF x hx), vis2.trans s3.vis, upd_same, Nat.le_refl _, .nil, h2, rfl⟩, fun i m H' hw => ?_⟩
    obtain ⟨rfl, hi, T', ρ', acc, ds1, r', st', hlen, fr', vis', hacc, la, ra, hgo, hr⟩ := hw
    obtain ⟨w1, w2⟩ := wk _ H' vis' st'.als
    by_cases hlt : i < xs.length
    · obtain ⟨w3, w4⟩ := w2 i _ (List.getElem?_eq_getElem hlt)
      rw [List.drop_eq_getElem_cons hlt] at hgo
      obtain ⟨ρ4, b4, ρ5, g4, t4, alt⟩ := wl_step hgo
      refine .inr ⟨w3, fun H2 => ∃ T' ρ' acc ds1 r', StOk pn (FL F [D]) T' H2 (wipe σ vs) (clearE ρ' vs) ∧ ρ'.length = ρ1.length ∧ (∀ x, F x → H2 x = H1 x) ∧ Ex (hid (SF F T1) H1) (hid (SF (FL F [D]) T') H2) ∧ H2 D = some (.lst acc) ∧ acc.length ≤ i + 1 ∧ RpAll (hid (SF (FL F [D]) T') H2) acc ds1 ∧ wlGo xg t e vs (xs.drop (i + 1)) ρ' = some r' ∧ r = (ds1 ++ r'.1, r'.2), fun H2 hn => ⟨_, by omega, rfl, hlt, hn⟩, fun v H3 y => ?_⟩
      obtain ⟨e3, rv⟩ := w4 v H3 y
      have st3 := st'.ex e3
      have s3 : Stp (FL F [D]) T' H' T' H3 := Stp.ex st'.al e3
      refine hg pn (FL F [D]) T' H3 (wipe σ vs) v _ _ ρ4 st3 g4 rv _ fun σ4 T4 st4 s4 off => ⟨wipe_off off hu, ?_⟩
      refine ht pn (FL F [D]) T4 H3 σ4 ρ4 b4 ρ5 st4 t4 _ fun T5 H5 st5 s5 => ?_
      have s15 := (s3.trans s4).trans s5
      have hD5 : H5 D = some (.lst acc) := by rw [s15.fr D (.inr (List.mem_cons_self ..))]; exact hacc
      rcases alt with ⟨rfl, d, ρ6, r6, f1, f2, rfl⟩ | ⟨rfl, f2⟩
      · show te σ4 H5 _
        refine he pn (FL F [D]) T5 H5 σ4 ρ5 d ρ6 st5 f1 _ fun z T6 H6 st6 s6 rz => ?_
        have s16 := s15.trans s6
        have hD6 : H6 D = some (.lst acc) := by rw [s6.fr D (.inr (List.mem_cons_self ..))]; exact hD5
        refine ⟨acc, hD6, Evl.sz_lt (by omega), ?_⟩
        have hS : SF (FL F [D]) T6 D := .inl (.inr (List.mem_cons_self ..))
        have vis7 : Ex (hid (SF (FL F [D]) T6) H6) (hid (SF (FL F [D]) T6) (upd H6 D (.lst (acc ++ [z])))) := fun x o h => by
          obtain ⟨c, h⟩ := hid_some h
          rw [hid_out c, upd_ne (fun z => c (by rw [z]; exact hS))]
          exact h
        have st7 : StOk pn (FL F [D]) T6 (upd H6 D (.lst (acc ++ [z]))) σ4 ρ6 := st6.mv vis7 (fun j x hx => upd_ne fun z => st6.off j x hx (by rw [z]; exact .inr (List.mem_cons_self ..))) fun x hx => by
          by_cases c : x = D
          · subst c; rw [upd_same]; exact fun z => nomatch z
          · rw [upd_ne c]; exact st6.al x hx
        obtain ⟨T8, st8, s8⟩ := st7.clear vs h0
        rw [wipe_off off hu] at st8
        have vis8 := vis7.trans s8.vis
        refine ⟨T8, ρ6, acc ++ [z], ds1 ++ [d], r6, st8, ?_, fun x hx => ?_, ((vis'.trans s16.vis).trans vis8), upd_same, by rw [List.length_append]; simpa using la, RpAll.append (ra.ex (s16.vis.trans vis8)) (.cons (rz.ex vis8) .nil), f2, by rw [hr]; simp⟩
        · have l6 := st6.len
          have l5 := off.1
          rw [wipe_length] at l5
          have l1 := st1.len
          omega
        · rw [upd_ne (npF x hx), s16.fr x (.inl hx)]
          exact fr' x hx
      · obtain ⟨T8, st8, s8⟩ := st5.clear vs h0
        rw [wipe_off off hu] at st8
        refine ⟨T8, ρ5, acc, ds1, r', st8, ?_, fun x hx => ?_, (vis'.trans s15.vis).trans s8.vis, hD5, by omega, ra.ex (s15.vis.trans s8.vis), f2, hr⟩
        · have l6 := st5.len
          have l5 := off.1
          rw [wipe_length] at l5
          have l1 := st1.len
          omega
        · rw [s15.fr x (.inl hx)]
          exact fr' x hx
    · have ei : i = xs.length := by omega
      subst ei
      rw [List.drop_length] at hgo
      cases hgo
      rw [List.append_nil] at hr
      subst hr
      refine .inl ⟨w1, q (.ref D) [D] T' H' ⟨?_, st'.al, st'.off, st'.dis, st'.nd, fun j hj => st'.out j (by rw [backE_len] at hj; rw [clearE_len]; exact hj), fun j s hj => ?_, fun v hv => st1.pin v hv⟩ (by simp) (fun x hx => ?_) (fun x hx => (fr' x hx).trans (s1.fr x hx)) (s1.vis.trans vis') ⟨D, acc, [], rfl, hacc, Cels.dats ra, rfl⟩⟩
      · rw [backE_len, hlen]; exact st1.len
      · have hjl : j < ρ'.length := by
          have := (List.getElem?_eq_some_iff.mp hj).1
          rw [backE_len] at this
          exact this
        by_cases c : j ∈ vs
        · rw [backE_at c hjl] at hj
          cases hj
          obtain ⟨o', _, h2⟩ := st'.sl j .un (clearE_at c hjl)
          have hT : T' j = [] := h2
          have hσ : j < σ.length := by rw [st1.len, ← hlen]; exact hjl
          rw [hT]
          have h9 : ρ1[j]? = some (ρ1[j]'(by rw [← hlen]; exact hjl)) := List.getElem?_eq_getElem _
          rw [h9]
          obtain ⟨o9, k1, k2⟩ := st1.sl j _ h9
          cases hs9 : ρ1[j]'(by rw [← hlen]; exact hjl) with
          | un => exact ⟨_, List.getElem?_eq_getElem hσ, rfl⟩
          | own cs => exact ⟨_, List.getElem?_eq_getElem hσ, rfl⟩
          | dic l => exact ⟨_, List.getElem?_eq_getElem hσ, rfl⟩
          | hal k h => exact ⟨_, List.getElem?_eq_getElem hσ, rfl⟩
          | dat d =>
            rw [hs9] at k2
            obtain ⟨_, v, rfl, rv⟩ := k2
            exact ⟨_, k1, rfl, v, rfl, rv.ex vis'⟩
        · rw [backE_off c] at hj
          obtain ⟨o', k1, k2⟩ := st'.sl j s (by rw [clearE_off c]; exact hj)
          rw [wipe_get c] at k1
          exact ⟨o', k1, k2⟩
      · have ex : x = D := by simpa using hx
        rw [ex]
        exact fun z => npF D z rfl
  · rw [if_neg hz] at hh; cases hh
def runP (n k : Nat) (X : XS) (ds : List PD) : Option PD := if ds.length = n then (X (ds.map Sl.dat ++ List.replicate k Sl.un)).bind fun o => match o with
  | .ret d _ => some d
  | .nxt _ => some .none
  | _ => none else none
def runW (n k : Nat) (X : XS) (cs : List Cel) (ds : List PD) : Option (PD × List Cel) := if ds.length = n then (X (.own cs :: (ds.map Sl.dat ++ List.replicate k Sl.un))).bind fun o => match o with
  | .ret d ρ => (ownAt ρ 0).bind fun cs' => some (d, cs')
  | .nxt ρ => (ownAt ρ 0).bind fun cs' => some (.none, cs')
  | _ => none else none
def runD (n k : Nat) (X : XS) (ds : List PD) : Option (List Cel) := if ds.length = n then (X (ds.map Sl.dat ++ List.replicate k Sl.un)).bind fun o => match o with
  | .retO cs _ => some cs
  | _ => none else none
def spD (f : List PD → Option (List Cel)) : Sp := fun vs H Q _ => ∃ S ds cs, Al S H ∧ RpAll (hid S H) vs ds ∧ f ds = some cs ∧ ∀ v A H2, Ex H H2 → A.Nodup → (∀ x ∈ A, ¬ S x ∧ H x = none) → Own (hid (FL S A) H2) H2 v cs A → Q v H2
theorem sw_callD {f : List PD → Option (List Cel)} {ts : TA} {as : XWA} (hs : SWA ts as) : SWO (tCall (spD f) [] E0 ts) (fun ρ => (as ρ).bind fun x => (f x.1).bind fun cs => some (cs, x.2)) := fun pn F T H σ ρ cs ρ' st e Q q => by
  obtain ⟨⟨xs, ρ1⟩, h1, e⟩ := bind_some e
  obtain ⟨z, h3, e⟩ := bind_some e
  cases e
  refine hs pn F T H σ ρ xs _ st h1 _ fun vs T1 H1 st1 s1 rv => ⟨SF F T1, xs, cs, st1.als, by rw [List.append_nil]; exact rv, h3, fun v A H2 e2 nd off ow => ?_⟩
  have eq : SF (FL F A) T1 = FL (SF F T1) A := funext fun x => propext ⟨fun h => h.elim (fun h => h.elim (fun z => .inl (.inl z)) .inr) fun z => .inl (.inr z), fun h => h.elim (fun h => h.elim (fun z => .inl (.inl z)) .inr) fun z => .inl (.inr z)⟩
  have vis : Ex (hid (SF F T1) H1) (hid (SF (FL F A) T1) H2) := fun x o h => by
    obtain ⟨c, h⟩ := hid_some h
    rw [hid_out]
    · exact e2 x o h
    · rw [eq]
      rintro (z | z)
      · exact c z
      · rw [(off x z).2] at h; cases h
  have st2 := st1.ex e2
  refine q v A T1 H2 ⟨st2.len, fun x hx => hx.elim (st2.al x) (fun z => let ⟨ob, g, _⟩ := ow.lst x z; fun w => by rw [g] at w; cases w), fun i x hx z => z.elim (st1.off i x hx) fun z => (off x z).1 (.inr ⟨i, hx⟩), st2.dis, st2.nd, st2.out, fun i s hi => ?_, st2.pin⟩ nd (fun x hx z => (off x hx).1 (.inl z)) (fun x hx => ((Stp.ex (T := T1) st1.al e2).fr x hx).trans (s1.fr x hx)) (s1.vis.trans vis) (by rw [eq]; exact ow)
  obtain ⟨o, k1, k2⟩ := st1.sl i s hi
  refine ⟨o, k1, k2.mv vis fun x hx => ?_⟩
  obtain ⟨ws, g, _⟩ := st1.lst hx
  rw [g, e2 x _ g]
theorem st0 {S : Hs} {H : Hp} {N : List Str} {vs : List V} {ds : List PD} {n k : Nat} (al : Al S H) (ra : RpAll (hid S H) vs ds) (hn : ds.length = n) (hN : N.length = n + k) : StOk pn0 S (fun _ => []) H (L2.start N vs) (ds.map Sl.dat ++ List.replicate k Sl.un) := by
  have e : N.length - vs.length = k := by rw [ra.length, hN, hn]; omega
  have eS : ∀ x, S x ↔ SF S (fun _ => []) x := fun x => ⟨.inl, fun h => h.elim id fun ⟨_, z⟩ => nomatch z⟩
  refine ⟨by unfold L2.start; rw [List.length_append, List.length_map, List.length_append, List.length_map, List.length_replicate, List.length_replicate, e, ra.length], al, fun i x h => (nomatch h), fun i j x h => (nomatch h), fun i => List.nodup_nil, fun i _ => rfl, fun i s hi => ?_, fun v z => nomatch z⟩
  unfold L2.start
  rw [e]
  by_cases c : i < ds.length
  · rw [List.getElem?_append_left (by rw [List.length_map]; exact c), List.getElem?_map, List.getElem?_eq_getElem c] at hi
    cases hi
    obtain ⟨v, h1, h2⟩ := ra.get (List.getElem?_eq_getElem c)
    refine ⟨some v, ?_, rfl, v, rfl, ?_⟩
    · rw [List.getElem?_append_left (by rw [List.length_map, ra.length]; exact c), List.getElem?_map, h1]
      rfl
    · rw [← hid_eq eS]; exact h2
  · rw [List.getElem?_append_right (by rw [List.length_map]; omega), List.getElem?_replicate] at hi
    rw [List.getElem?_append_right (by rw [List.length_map, ra.length]; omega), List.getElem?_replicate]
    rw [List.length_map] at hi ⊢
    rw [ra.length]
    split at hi
    · rename_i c2
      cases hi
      exact ⟨none, by rw [if_pos c2], rfl⟩
    · cases hi
theorem go_P {t : TS} {X : XS} {N : List Str} {vs : List V} {H : Hp} {Q : VK} {E : XK} {n k : Nat} (hX : SS t X) (hN : N.length = n + k) (hs : spF (runP n k X) vs H Q E) : t { nx := fun _ H' => Q .non H', rt := Q } (L2.start N vs) H := by
  obtain ⟨S, ds, d, al, ra, h, q⟩ := hs
  unfold runP at h
  by_cases hn : ds.length = n
  · rw [if_pos hn] at h
    obtain ⟨o, h1, h⟩ := bind_some h
    have eS : ∀ {T' : Trs} x, S x → SF S T' x := fun x => .inl
    have ex : ∀ {T' : Trs} {H' : Hp}, Stp S (fun _ => []) H T' H' → Ex H H' := fun {T' H'} s x o hx => by
      by_cases c : S x
      · rw [s.fr x c]; exact hx
      · exact hid_le _ _ (s.vis x o (by rw [hid_out (fun z => z.elim c fun ⟨_, z⟩ => nomatch z)]; exact hx))
    refine hX pn0 S _ H _ _ o _ (st0 al ra hn hN) h1 ?_
    cases o with
    | ret d' ρ' => cases h; exact fun v σ T' H' st' s' rv => q v H' (ex s') (rv.ex (hid_sub fun x hx => .inl hx))
    | nxt ρ' => cases h; exact fun σ T' H' st' s' => q .non H' (ex s') .non
    | retO _ _ => cases h
    | brk _ => cases h
    | cnt _ => cases h
  · rw [if_neg hn] at h; cases h
theorem go_D {t : TS} {X : XS} {N : List Str} {vs : List V} {H : Hp} {Q : VK} {E : XK} {n k : Nat} (hX : SS t X) (hN : N.length = n + k) (hs : spD (runD n k X) vs H Q E) : t { nx := fun _ H' => Q .non H', rt := Q } (L2.start N vs) H := by
  obtain ⟨S, ds, d, al, ra, h, q⟩ := hs
  unfold runD at h
  by_cases hn : ds.length = n
  · rw [if_pos hn] at h
    obtain ⟨o, h1, h⟩ := bind_some h
    refine hX pn0 S _ H _ _ o _ (st0 al ra hn hN) h1 ?_
    cases o with
    | retO d' ρ' =>
      cases h
      intro v A σ T' H' st' nd off fr vis ow
      have ex : Ex H H' := fun x o hx => by
        by_cases c : S x
        · rw [fr x c]; exact hx
        · exact hid_le _ _ (vis x o (by rw [hid_out (fun z => z.elim c fun ⟨_, z⟩ => nomatch z)]; exact hx))
      refine q v A H' ex nd (fun x hx => ⟨off x hx, ?_⟩) (ow.mv (hid_sub fun x hx => .inl hx) fun _ _ => rfl)
      cases qq : H x with
      | none => rfl
      | some o =>
        obtain ⟨c, _⟩ := hid_some (vis x o (by rw [hid_out (fun z => z.elim (off x hx) fun ⟨_, z⟩ => nomatch z)]; exact qq))
        exact absurd (.inl (.inr hx)) c
    | ret _ _ => cases h
    | nxt _ => cases h
    | brk _ => cases h
    | cnt _ => cases h
  · rw [if_neg hn] at h; cases h
theorem go_W {t : TS} {X : XS} {N : List Str} {vs : List V} {H : Hp} {Q : VK} {E : XK} {n k : Nat} (hX : SS t X) (hN : N.length = n + 1 + k) (hs : spW (runW n k X) vs H Q E) : t { nx := fun _ H' => Q .non H', rt := Q } (L2.start N vs) H := by
  obtain ⟨F, a, B, cs, ws, ds, d, cs', rfl, al, off, nd, ow, ra, h, q⟩ := hs
  unfold runW at h
  by_cases hn : ds.length = n
  · rw [if_pos hn] at h
    obtain ⟨o, h1, h⟩ := bind_some h
    obtain ⟨T, hT⟩ : ∃ T : Trs, T = fun i => if i = 0 then a :: B else [] := ⟨_, rfl⟩
    have T0 : T 0 = a :: B := by rw [hT]; rfl
    have TS : ∀ i, i ≠ 0 → T i = [] := fun i hi => by rw [hT]; exact if_neg hi
    have eqv : ∀ x, FL F (a :: B) x ↔ SF F T x := fun x => by
      constructor
      · rintro (z | z)
        · exact .inl z
        · exact .inr ⟨0, by rw [T0]; exact z⟩
      · rintro (z | ⟨i, z⟩)
        · exact .inl z
        · by_cases c : i = 0
          · subst c; rw [T0] at z; exact .inr z
          · rw [TS i c] at z; cases z
    have eh : hid (FL F (a :: B)) H = hid (SF F T) H := hid_eq eqv
    have e : N.length - (V.ref a :: ws).length = k := by rw [List.length_cons, ra.length, hN, hn]; omega
    have st : StOk (pn1 (.ref a)) F T H (L2.start N (.ref a :: ws)) (.own cs :: (ds.map Sl.dat ++ List.replicate k Sl.un)) := by
      have mem : ∀ i x, x ∈ T i → i = 0 ∧ x ∈ a :: B := fun i x hx => by
        by_cases c : i = 0
        · subst c; rw [T0] at hx; exact ⟨rfl, hx⟩
        · rw [TS i c] at hx; cases hx
      refine ⟨?_, al, fun i x hx => off x (mem i x hx).2, fun i j x hx hy => (mem i x hx).1.trans (mem j x hy).1.symm, fun i => ?_, fun i hi => TS i (by rw [List.length_cons] at hi; omega), fun i s hi => ?_, fun v hv => ?_⟩
      · unfold L2.start
        rw [e]
        simp only [List.map_cons, List.cons_append, List.length_cons, List.length_append, List.length_map, List.length_replicate]
        rw [ra.length]
      · by_cases c : i = 0
        · subst c; rw [T0]; exact nd
        · rw [TS i c]; exact List.nodup_nil
      · unfold L2.start
        rw [e]
        cases i with
        | zero =>
          cases hi
          rw [T0]
          exact ⟨_, rfl, _, rfl, by rw [← eh]; exact ow⟩
        | succ i =>
          rw [TS _ (Nat.succ_ne_zero i)]
          have hi : (ds.map Sl.dat ++ List.replicate k Sl.un)[i]? = some s := hi
          show ∃ o, (ws.map some ++ List.replicate k none)[i]? = some o ∧ _
          by_cases c : i < ds.length
          · rw [List.getElem?_append_left (by rw [List.length_map]; exact c), List.getElem?_map, List.getElem?_eq_getElem c] at hi
            cases hi
            obtain ⟨v, k1, k2⟩ := ra.get (List.getElem?_eq_getElem c)
            refine ⟨some v, ?_, rfl, v, rfl, by rw [← eh]; exact k2⟩
            rw [List.getElem?_append_left (by rw [List.length_map, ra.length]; exact c), List.getElem?_map, k1]
            rfl
          · rw [List.getElem?_append_right (by rw [List.length_map]; omega), List.getElem?_replicate] at hi
            rw [List.getElem?_append_right (by rw [List.length_map, ra.length]; omega), List.getElem?_replicate]
            rw [List.length_map] at hi ⊢
            rw [ra.length]
            split at hi
            · rename_i c2
              cases hi
              exact ⟨none, by rw [if_pos c2], rfl⟩
            · cases hi
      · cases hv
        unfold L2.start
        rfl
    have fin : ∀ (v : V) (d1 : PD) (cs1 : List Cel) (σ : L2.St) (ρ1 : Env) (T' : Trs) (H' : Hp), StOk (pn1 (.ref a)) F T' H' σ ρ1 → Stp F T H T' H' → Rp (hid (SF F T') H') v d1 → ownAt ρ1 0 = some cs1 → (d1, cs1) = (d, cs') → Q v H' := by
      intro v d1 cs1 σ ρ1 T' H' st' s' rv ho e2
      cases e2
      obtain ⟨a', us, B', h1, h2, h3, h4⟩ := st'.at_own (ownAt_eq ho)
      have hp := st'.pin _ rfl
      have ea : a' = a := by rw [h1] at hp; cases hp; rfl
      subst ea
      have sub : Ex (hid (SF F T') H') (hid (FL F (a' :: B')) H') := hid_sub fun x hx => hx.elim .inl fun z => .inr ⟨0, by rw [h4]; exact z⟩
      refine q v B' H' s'.fr (by rw [eh]; exact s'.vis.trans sub) (fun x hx => st'.off 0 x (by rw [h4]; exact hx)) (by rw [← h4]; exact st'.nd 0) ⟨a', us, B', rfl, h2, h3.mv sub fun _ _ => rfl, rfl⟩ (rv.ex sub)
    refine hX (pn1 (.ref a)) F T H _ _ o _ st h1 ?_
    cases o with
    | ret d' ρ' =>
      obtain ⟨c1, k1, k2⟩ := bind_some h
      exact fun v σ T' H' st' s' rv => fin v d' c1 σ ρ' T' H' st' s' rv k1 (Option.some.inj k2)
    | nxt ρ' =>
      obtain ⟨c1, k1, k2⟩ := bind_some h
      exact fun σ T' H' st' s' => fin .non .none c1 σ ρ' T' H' st' s' .non k1 (Option.some.inj k2)
    | retO _ _ => cases h
    | brk _ => cases h
    | cnt _ => cases h
  · rw [if_neg hn] at h; cases h
theorem len_F {n k : Nat} {X : XS} {vs : List V} {H : Hp} {Q : VK} {E : XK} (h : spF (runP n k X) vs H Q E) : vs.length = n := by
  obtain ⟨S, ds, d, _, ra, h, _⟩ := h
  unfold runP at h
  by_cases hn : ds.length = n
  · rw [ra.length]; exact hn
  · rw [if_neg hn] at h; cases h
theorem len_D {n k : Nat} {X : XS} {vs : List V} {H : Hp} {Q : VK} {E : XK} (h : spD (runD n k X) vs H Q E) : vs.length = n := by
  obtain ⟨S, ds, d, _, ra, h, _⟩ := h
  unfold runD at h
  by_cases hn : ds.length = n
  · rw [ra.length]; exact hn
  · rw [if_neg hn] at h; cases h
theorem len_W {n k : Nat} {X : XS} {vs : List V} {H : Hp} {Q : VK} {E : XK} (h : spW (runW n k X) vs H Q E) : vs.length = n + 1 := by
  obtain ⟨F, a, B, cs, ws, ds, d, cs', rfl, _, _, _, _, ra, h, _⟩ := h
  unfold runW at h
  by_cases hn : ds.length = n
  · rw [List.length_cons, ra.length, hn]
  · rw [if_neg hn] at h; cases h
end Uv

namespace Uv
open PySem PySem.Spec PyProof.Rows L2
open Evl (Ex)
section
variable {P : Program} {w : World} {K : PySem.W.Frag} {mg : Str → Option Value} {base : Heap}
structure FnG (P : Program) (w : World) (K : PySem.W.Frag) (mg : Str → Option Value) (base : Heap) (k : Nat) (f : Addr) (fd : FuncData) (ps : List Str) (sp : Sp) : Prop where
  len : ∀ vs H Q E, sp vs H Q E → vs.length = ps.length
  run : ∀ (A : Around) (outer : List PySem.Env) (s : Shared) (H : Hp) (args : Args) (us : List Value) (vs : List V) (Q : VK) (E : XK), A.guards = some [] → Room k A → Env0 P w K mg base A outer s H → BindsTo s fd args (ps.zip us) → Vals vs us → sp vs H Q E →
    codeAny (model P w) A (.call (.ref f) args) (CR CX0 outer P w H s Q E) s
structure CalG (P : Program) (w : World) (K : PySem.W.Frag) (mg : Str → Option Value) (base : Heap) (k : Nat) (x : Str) (sp : Sp) : Prop where
  ex : ∃ (f : Addr) (fd : FuncData) (ps : List Str), FnG P w K mg base k f fd ps sp ∧ mg x = some (.ref f) ∧ PySem.W.keepIn K (.ref f) = true ∧ Binds K fd ps []
structure Dfn (K : PySem.W.Frag) (mg : Str → Option Value) (x : Str) (st : Stmt) (ps : List Str) : Prop where
  ex : ∃ f fd, Fun K x x st f fd ∧ mg x = some (.ref f) ∧ Binds K fd ps []
theorem dfn_mk {h : Heap} {x : Str} {st : Stmt} {ps : List Str} {f : Addr} {od an : Option Addr} {sl : Array (Option Value)} {oc kV dc pm cd ct : Value} (X : K.In h) (G : h.Ns mainGlobals mg)
    (a1 : PySem.W.nsIn K mainGlobals x = some (some (.ref f))) (l1 : K.lookup f = some ⟨oc, od, .func (PySem.W.fnOf x x (defArgs st) (defBody st) (defScope st) .none kV dc pm an cd ct), sl⟩) (c1 : PySem.W.codeIn K cd x = true) (k1 : PySem.W.keepIn K (.ref f) = true)
    (hb : ∀ (kV doc pm : Value) (an : Option Addr) (cdv ct : Value) (us : List Value), us.length = ps.length → bindArgs (PySem.W.fnOf x x (defArgs st) (defBody st) (defScope st) .none kV doc pm an cdv ct) ⟨us, []⟩ = pure (ps.zip us)) : Dfn K mg x st ps := by
  have F := fun_mk (st := st) l1 c1 k1
  exact ⟨f, _, F, PySem.W.mg_of X G a1, F.binds hb⟩
theorem pe_g {X : Cx} {j k : Nat} {x : Str} {sp : Sp} {p pos : Pos} {e : Expr} {es : List Expr} {t : TA} (c : CalG X.prog X.w X.K X.mg X.base k x sp) (hr : Room j X.A) (hk : k ≤ j) (hG : X.A.guards = some []) (hg : Gl X x) (ha : PA X (e :: es) t)
    (hdb : (x == ("__debug__" : Str)) = false := by decide) (he : starEach (e :: es) X.env = (false, eval e X.env) :: starEach es X.env := by rfl) (hpl : (backTo pos (starEach es X.env)).any (·.1) = false := by rfl) :
    PE X (.Call (.Name x p) (e :: es) [] pos) (tCall sp [] E0 t) := by
  obtain ⟨f, fd, ps, F, hm, kp, b⟩ := c.ex
  refine ⟨fun pins s σ H Q I h => wpAny_Call_Name_kw (ld_glob I hg hm ?_ hdb)⟩
  refine PySem.W.callWith_K (h₀ := X.base) I.ok.mod.kin kp (thn (ha.run pos pins s σ H _ I h) fun us s1 hh => ?_) he hpl
  obtain ⟨vs, H1, I1, r, q⟩ := hh
  rw [List.append_nil] at q
  have hl : us.length = ps.length := by rw [← r.length]; exact F.len _ _ _ _ q
  have bd := b s1 us I1.kIn (by rw [List.append_nil]; exact hl)
  rw [List.append_nil] at bd
  refine ⟨I1.kIn, wpAny_call (codeAny_mono (F.run X.A X.stack s1 H1 ⟨us, []⟩ us vs Q E0 hG (hr.mono hk) I1.env0 bd r q) fun rr s' hq => ?_)⟩
  match rr, hq with
  | .error _, hq => exact hq.elim
  | .ok (.ret u), hq => exact I1.after hq
  | .ok .next, hq => exact hq.elim
  | .ok .brk, hq => exact hq.elim
  | .ok .cont, hq => exact hq.elim
theorem fn_g {x : Str} {st : Stmt} {f : Addr} {fd : FuncData} {N ps : List Str} {k : Nat} {sp : Sp} (F : Fun K x x st f fd) (S : FnScope N ps (defScope st)) (len : ∀ vs H Q E, sp vs H Q E → vs.length = ps.length)
    (hb : ∀ (cdv : Value) (A : Around) (outer : List PySem.Env) (s : Shared) (H : Hp) (E : XK), (A.deeper (envOfC x (defScope st) s.heap.objs.size f cdv)).guards = some [] → Room k (A.deeper (envOfC x (defScope st) s.heap.objs.size f cdv)) →
      ∃ t, PSs (cxOf CX0 P w K mg base N x (defScope st) f cdv A outer s H E).nox (defBody st) t ∧ ∀ vs Q, sp vs H Q E → t { nx := fun _ H' => Q .non H', rt := Q } (L2.start N vs) H) : FnG P w K mg base (k + 1) f fd ps sp := by
  obtain ⟨oc, od, kV, doc, pm, an, cdv, ct, osl, rfl, lk, hcd⟩ := F.ex
  refine ⟨len, fun A outer s H args us vs Q E hG hr e0 hbd r hsp => ?_⟩
  obtain ⟨t, ht, hq⟩ := hb cdv A outer s H E hG (hr.deeper _)
  have keep : ∀ b o, base.get? b = some o → s.heap.get? b = some o := fun b o e => (e0.bs b o e).1
  have KX : K.In s.heap := e0.mod.kin.keeps keep
  have lim : s.heap.NoLimit := e0.mod.nolimit.keeps keep
  refine codeAny_call_function hr.depth (KX _ _ lk) rfl S.co S.gen rfl (PySem.W.codeRec_of KX hcd) (hbd _ _ _ _ ?_)
  refine wpAny_newFunctionEnv_cells S.kind (fun y hy => ?_) fun env he s1 ic => ?_
  · rcases S.par y.1 (List.of_mem_zip hy).1 with q | q
    · exact .inl q
    · exact .inr ⟨q, PySem.W.cellsFrom_some _ _ _ (.inl q)⟩
  · subst he
    have I : Inv (cxOf CX0 P w K mg base N x (defScope st) f cdv A outer s H E) [] (L2.start N vs) H s1 := inv_start S hr.hd e0 (len _ _ _ _ hsp) r ic
    refine ⟨lim.keeps ic.toInCall.keep, codeAny_func (wpAny_mono (ht.nox.run [] s1 (L2.start N vs) H _ I (hq vs Q hsp)) (fun fl s' hs => ?_) fun e s' hs => hs)⟩
    match fl, hs with
    | .ret u, ⟨v, σ', H', J, rv, q⟩ => exact ⟨v, H', J.os, J.bare, J.base, J.hok, rv, q⟩
    | .next, ⟨σ', H', J, q⟩ => exact ⟨.non, H', J.os, J.bare, J.base, J.hok, rfl, q⟩
    | .brk, ⟨_, _, _, q⟩ => exact q.elim
    | .cont, ⟨_, _, _, q⟩ => exact q.elim
theorem cal_g {x : Str} {st : Stmt} {N ps : List Str} {k : Nat} {sp : Sp} (F : Dfn K mg x st ps) (S : FnScope N ps (defScope st)) (len : ∀ vs H Q E, sp vs H Q E → vs.length = ps.length)
    (hb : ∀ (f : Addr) (cdv : Value) (A : Around) (outer : List PySem.Env) (s : Shared) (H : Hp) (E : XK), (A.deeper (envOfC x (defScope st) s.heap.objs.size f cdv)).guards = some [] → Room k (A.deeper (envOfC x (defScope st) s.heap.objs.size f cdv)) →
      ∃ t, PSs (cxOf CX0 P w K mg base N x (defScope st) f cdv A outer s H E).nox (defBody st) t ∧ ∀ vs Q, sp vs H Q E → t { nx := fun _ H' => Q .non H', rt := Q } (L2.start N vs) H) : CalG P w K mg base (k + 1) x sp := by
  obtain ⟨f, fd, F, hm, b⟩ := F.ex
  exact ⟨f, fd, ps, fn_g F S len (hb f), hm, F.kp, b⟩
end
def scriptH (K : PySem.W.Frag) (a : Addr) (vs : List Value) (ns : List Int) : Hp := fun b => if b = a ∧ K.lookup a = none then some (.frz { cls := .type "list", data := .seq vs.toArray } (.lst (ns.map V.int))) else none
theorem scriptH_some {K : PySem.W.Frag} {a b : Addr} {vs : List Value} {ns : List Int} {o : HO} (h : scriptH K a vs ns b = some o) : b = a ∧ K.lookup a = none ∧ o = .frz { cls := .type "list", data := .seq vs.toArray } (.lst (ns.map V.int)) := by
  unfold scriptH at h
  by_cases c : b = a ∧ K.lookup a = none
  · rw [if_pos c] at h
    exact ⟨c.1, c.2, (Option.some.inj h).symm⟩
  · rw [if_neg c] at h
    cases h
theorem none_by {K : PySem.W.Frag} {a b : Addr} {vs : List Value} {ns : List Int} (h : b = a → K.lookup a = none → False) : scriptH K a vs ns b = none := by
  cases q : scriptH K a vs ns b with
  | none => rfl
  | some o =>
    obtain ⟨e1, e2, _⟩ := scriptH_some q
    exact (h e1 e2).elim
theorem top_call {P : Program} {w : World} {K : PySem.W.Frag} {mg mb : Str → Option Value} {k : Nat} {fa a : Addr} {fd : FuncData} {x : Str} {sp : Sp} {s₁ : Shared} {vs : List Value} {ns : List Int}
    (KX : K.In s₁.heap) (hns : s₁.heap.Ns mainGlobals mg) (hb : s₁.heap.Ns builtinsNs mb) (hbb : ∀ x : Str, x ≠ "__name__" → mb x = bootBuiltins x) (hlim : s₁.heap.NoLimit) (hg : s₁.gens = #[])
    (ha : s₁.heap.get? a = some { cls := .type "list", data := .seq vs.toArray }) (hi : IntsAre vs ns) (hl : ns.length ≤ sizeLine) (hr : Room k callerA)
    (F : ∀ base : Heap, K.In base → base.Ns mainGlobals mg → FnG P w K mg base k fa fd [x] sp) (hbind : ∀ (s : Shared) (u : Value), BindsTo s fd ⟨[u], []⟩ [(x, u)])
    (hsp : ∀ H : Hp, SqL K H a (ns.map V.int) → sp [.ref a] H (fun v _ => v = .bl true) fun _ _ _ => False) :
    codeAny (model P w) callerA (.call (.ref fa) ⟨[.ref a], []⟩) (fun r s' => r = .ok (.ret (.bool true)) ∧ OldK s₁.heap s'.heap ∧ s'.os = s₁.os ∧ AllBare s'.gens) s₁ := by
  have rv := vals_ints hi
  have hs : SqL K (scriptH K a vs ns) a (ns.map V.int) := by
    cases hk : K.lookup a with
    | none => exact .inl (.inr ⟨_, if_pos ⟨rfl, hk⟩⟩)
    | some o =>
      have e := KX a o hk
      rw [ha] at e
      cases e
      exact .inr ⟨_, vs.toArray, _, hk, rfl, rfl, rfl, by rw [List.size_toArray, hi.length]; exact hl, by simpa using rv⟩
  have hok : HOk P w (scriptH K a vs ns) s₁.heap := fun b o h => by
    obtain ⟨rfl, _, rfl⟩ := scriptH_some h
    exact ⟨ha, by rw [List.length_map]; exact hl, vs, _, rv, ha⟩
  have old : ∀ {b : Addr} {o : Obj}, s₁.heap.get? b = some o → scriptH K a vs ns b = none → (hidT s₁.heap (scriptH K a vs ns)).get? b = some o := fun e n => hidT_get e n
  have nsK : ∀ {b : Addr} {m : Str → Option Value}, s₁.heap.Ns b m → (hidT s₁.heap (scriptH K a vs ns)).Ns b m := fun {b m} ⟨o, es, ep, e, d, r⟩ => ⟨o, es, ep, old e (none_by fun z _ => by
    subst z
    rw [ha] at e
    cases e
    exact nomatch (show Data.seq vs.toArray _ = Data.dict es ep from d)), d, r⟩
  have kin : K.In (hidT s₁.heap (scriptH K a vs ns)) := fun b o e => old (KX b o e) (none_by fun z q => by
    subst z
    rw [q] at e
    cases e)
  have mod : Mod K mg (hidT s₁.heap (scriptH K a vs ns)) := ⟨kin, nsK hns, ⟨mb, nsK hb, hbb⟩, let ⟨mc, h1, h2⟩ := hlim; ⟨mc, nsK h1, h2⟩⟩
  have e0 : Env0 P w K mg (hidT s₁.heap (scriptH K a vs ns)) callerA [] s₁ (scriptH K a vs ns) := ⟨rfl, mod, fun b o e => of_hidT e, Nat.le_of_eq (hidT_size _ _), trivial, fun b hb => absurd (show b ∈ ([] : List Addr) from hb) (by simp), hok, .of_eq hg⟩
  refine codeAny_mono ((F _ kin (nsK hns)).run callerA [] s₁ _ ⟨[.ref a], []⟩ [.ref a] [.ref a] _ _ rfl hr e0 (hbind s₁ (.ref a)) (.cons rfl .nil) (hsp _ hs)) fun r s' h => ?_
  match r, h with
  | .error e, h => exact h.elim
  | .ok .next, h => exact h.elim
  | .ok .brk, h => exact h.elim
  | .ok .cont, h => exact h.elim
  | .ok (.ret u), ⟨v, H', os, bare, un, hok', r', q⟩ =>
    have q' : v = .bl true := q
    subst q'
    obtain rfl : u = Value.bool true := r'
    refine ⟨rfl, OldK.of_keep fun b o e => ?_, os, bare⟩
    cases q : scriptH K a vs ns b with
    | none => exact un.keep b o e q (fun z => absurd (show b ∈ ([] : List Addr) from z) (by simp)) (by simp)
    | some u =>
      obtain ⟨rfl, _, rfl⟩ := scriptH_some q
      obtain ⟨e1, _⟩ := hok b _ q
      obtain ⟨e2, _⟩ := hok' b _ (un.frzs b _ _ q)
      rw [e] at e1
      cases e1
      exact e2
end Uv

namespace Uv
open PySem PySem.Spec PyProof.Rows L2
open Evl (Ex)
variable [kk : KK]
def wCallD (f : List PD → Option (List Cel)) (as : XWA) : XWO := fun ρ => (as ρ).bind fun x => (f x.1).bind fun cs => some (cs, x.2)
def insI (x : Int) : List Int → List Int
  | [] => [x]
  | y :: ys => if x ≤ y then x :: y :: ys else y :: insI x ys
def sortI : List Int → List Int
  | [] => []
  | x :: xs => insI x (sortI xs)
theorem insI_perm (x : Int) : ∀ ys : List Int, (insI x ys).Perm (x :: ys)
  | [] => .refl _
  | y :: ys => by
    unfold insI
    by_cases c : x ≤ y
    · rw [if_pos c]
    · rw [if_neg c]
      exact ((insI_perm x ys).cons y).trans (.swap x y ys)
theorem sortI_perm : ∀ xs : List Int, (sortI xs).Perm xs
  | [] => .refl _
  | x :: xs => (insI_perm x _).trans ((sortI_perm xs).cons x)
theorem insI_sorted (x : Int) : ∀ {ys : List Int}, ys.Pairwise (· ≤ ·) → (insI x ys).Pairwise (· ≤ ·)
  | [], _ => by simp [insI]
  | y :: ys, h => by
    unfold insI
    obtain ⟨h1, h2⟩ := List.pairwise_cons.mp h
    by_cases c : x ≤ y
    · rw [if_pos c]
      refine List.pairwise_cons.mpr ⟨fun z hz => ?_, h⟩
      rcases List.mem_cons.mp hz with e | e
      · rw [e]; exact c
      · exact Int.le_trans c (h1 z e)
    · rw [if_neg c]
      refine List.pairwise_cons.mpr ⟨fun z hz => ?_, insI_sorted x h2⟩
      rcases List.mem_cons.mp ((insI_perm x ys).mem_iff.mp hz) with e | e
      · rw [e]; omega
      · exact h1 z e
theorem sortI_sorted : ∀ xs : List Int, (sortI xs).Pairwise (· ≤ ·)
  | [] => .nil
  | x :: xs => insI_sorted x (sortI_sorted xs)
theorem sorted_eq : ∀ {xs ys : List Int}, xs.Perm ys → xs.Pairwise (· ≤ ·) → ys.Pairwise (· ≤ ·) → xs = ys
  | [], ys, p, _, _ => (List.perm_nil.mp p.symm).symm ▸ rfl
  | x :: xs, [], p, _, _ => absurd (List.perm_nil.mp p) (by simp)
  | x :: xs, y :: ys, p, h, h' => by
    obtain ⟨h1, h2⟩ := List.pairwise_cons.mp h
    obtain ⟨h3, h4⟩ := List.pairwise_cons.mp h'
    have e : x = y := by
      have a1 : x ∈ y :: ys := p.mem_iff.mp (List.mem_cons_self ..)
      have a2 : y ∈ x :: xs := p.mem_iff.mpr (List.mem_cons_self ..)
      rcases List.mem_cons.mp a1 with e | e
      · exact e
      · rcases List.mem_cons.mp a2 with f | f
        · exact f.symm
        · exact Int.le_antisymm (h1 y f) (h3 x e)
    subst e
    rw [sorted_eq p.cons_inv h2 h4]
end Uv

namespace Uv
open PySem PySem.Spec PyProof.Rows L2 Srt SrtO
open Evl (Ex)
section
variable {prog : Program} {w : World} {A : Around} {E : Value → Shared → Prop} {s : Shared}
theorem collectT {l : Addr} {vs : List Value} {Q : List Value → Shared → Prop} (tp : s.heap.IsTuple l vs.toArray) (sz : vs.length ≤ sizeLine)
    (k : Q vs { s with heap := (s.heap.push (seqObj "list" #[] 0)).update s.heap.objs.size (Obj.mapSeq (· ++ vs.toArray)) }) : wpAny (model prog w) A (collect (.ref l)) Q E s := by
  obtain ⟨ob, g, c, m, dt⟩ := tp
  have g2 : (s.heap.push (seqObj "list" #[] 0)).get? l = some ob := Heap.get?_push_of_some _ g
  have lo : (s.heap.push (seqObj "list" #[] 0)).get? s.heap.objs.size = some (seqObj "list" #[] 0) := Heap.get?_push_size _ rfl
  unfold collect; refine wpAny_bind (wpAny_runValue (codeAny_builtin entry_proto_collect' ?_))
  show wpAny _ _ (do again (.builtin "list.__iadd__" ⟨[← newList [], .ref l], []⟩)) _ _ s
  refine wpAny_bind (wpAny_newList (wpAny_pure ⟨Code.quiet_builtin _ (by decide +kernel), codeAny_builtin entry_list_iadd' ?_⟩))
  show wpAny _ _ (Builtin.List.listExtendWith (.ref s.heap.objs.size) (.ref l) (.ref s.heap.objs.size)) _ _ { s with heap := s.heap.push (seqObj "list" #[] 0) }
  unfold Builtin.List.listExtendWith; refine wpAny_bind (wpAny_typeOf (T := "tuple") ⟨ob, g2, c⟩ ?_)
  have tt : (Value.type "tuple" == Value.type "tuple") = true := by rfl
  rw [if_pos (by rw [tt, Bool.or_true])]
  refine wpAny_bind (listItems_at g2 dt (wpAny_bind (listItems_at lo rfl ?_)))
  rw [if_neg (by simp)]
  refine wpAny_bind (listUpdate_at lo rfl (wpAny_pure ?_) (Nat.zero_le _) (by show (#[] ++ vs.toArray).size ≤ sizeLine + 1; simp; omega))
  refine wpAny_bind (wpAny_load (get?_update_seq lo _) ?_)
  show wpAny _ _ (pure ((#[] : Array Value) ++ vs.toArray).toList) Q E _
  have z : ((#[] : Array Value) ++ vs.toArray).toList = vs := by simp
  rw [z]; exact wpAny_pure k
theorem sortT {l : Addr} {vs : List Value} {lt : Value → Value → Bool} {Q : Value → Shared → Prop} (O : Swo lt) (tp : s.heap.IsTuple l vs.toArray) (sz : vs.length ≤ sizeLine)
    (ord : 2 ≤ vs.length → ∀ (h₁ : Heap) (a : Addr), h₁.get? a = some (seqObj "list" vs.toArray 0) → (∀ b o, s.heap.get? b = some o → b ≠ a ∧ h₁.get? b = some o) → SortableO prog w A.in1.in1 { s with heap := h₁ } a vs lt)
    (k : ∀ out : List Value, Srtd lt out → Stb lt out vs → Q (.ref (s.heap.objs.size + 1)) { s with heap := sortedAll s.heap vs out.toArray }) : wpAny (model prog w) A (call (.builtin "sorted") [.ref l]) Q E s := by
  obtain ⟨h1, e1⟩ : ∃ h1, h1 = (s.heap.push (seqObj "list" #[] 0)).update s.heap.objs.size (Obj.mapSeq (· ++ vs.toArray)) := ⟨_, rfl⟩
  have z : h1.objs.size = s.heap.objs.size + 1 := by rw [e1, Heap.size_update, size_push']
  have at1 : (h1.push (seqObj "list" vs.toArray 0)).get? (s.heap.objs.size + 1) = some (seqObj "list" vs.toArray 0) := by rw [← z]; exact Heap.get?_push_size _ rfl
  have old : ∀ b o, s.heap.get? b = some o → b ≠ s.heap.objs.size + 1 ∧ (h1.push (seqObj "list" vs.toArray 0)).get? b = some o := fun b o g => by
    have lt' : b < s.heap.objs.size := Heap.lt_size g
    refine ⟨Nat.ne_of_lt (Nat.lt_succ_of_lt lt'), Heap.get?_push_of_some _ ?_⟩
    rw [e1, Heap.get?_update_ne _ _ _ _ (Nat.ne_of_lt lt')]; exact Heap.get?_push_of_some _ g
  refine Calls.call_function_entry kind_sorted plain_sorted entry_sorted (args_sorted1 _) ?_; unfold Builtin.«sorted»
  refine wpAny_bind (m := checkCount "sorted" 1 1 _) (wpAny_pure (wpAny_bind (collectT tp sz (wpAny_bind (wpAny_newList ?_ sz)))))
  rw [← e1]
  show wpAny _ _ _ _ _ { s with heap := h1.push (seqObj "list" vs.toArray 0) }
  rw [z]
  refine wpAny_bind (wpAny_holding (wpAny_call_entry slot_list_sort ⟨_, at1, rfl⟩ entry_list_sort (list_sort_ord O at1 sz (fun h2 => ord h2 _ _ at1 old) fun out c1 c2 => ⟨_, rfl, wpAny_pure ⟨_, rfl, ?_⟩⟩) (args_list_sort _)))
  have kk := k out c1 c2
  unfold sortedAll at kk
  rw [← e1] at kk
  exact kk
end
def rSortedT (K : PySem.W.Frag) : List V → Hp → VK → Prop := fun vs H Q => ∃ (a : Addr) (ns : List Int), vs = [V.ref a] ∧ SqT K H a (ns.map V.int) ∧ ∀ (ms : List Int) (p : Addr), ms.Perm ns → ms.Pairwise (· ≤ ·) → H p = none → Q (.ref p) (upd H p (.lst (ms.map V.int)))
theorem cr_sortedT {X : Cx} : CallR X (.builtin "sorted") (rSortedT X.K) := by
  intro pins s σ H vs us Q I r ⟨a, ns, ev, hq, q⟩
  subst ev
  obtain ⟨its, rv, tp, sz⟩ := I.tuple hq
  rw [Vals.ref1 r]
  have hi := rv.ints
  refine sortT swo_int tp (by rw [← rv.length]; exact sz) (fun h2 h₁ a' _ _ => ints_sortable hi h2) fun out c1 c2 => ?_
  obtain ⟨k1, k2, k3⟩ := ints_out hi c1 c2
  obtain ⟨ep, at1⟩ := PyProof.Rows.sortedAll_at s.heap its out.toArray
  have ll : ((out.map iv).map V.int).length ≤ sizeLine := by rw [List.length_map, k2.length_eq]; rw [List.length_map] at sz; exact sz
  have I2 := I.laid (t' := s.toks) (o := .lst ((out.map iv).map V.int)) (fun _ _ => PyProof.Rows.sortedAll_old) (Nat.le_succ _) (show ObjOk X.prog X.w _ _ _ (.lst _) from ⟨ll, out, ep, vals_of_ints k1, at1⟩)
  exact ⟨.ref _, _, I2, rfl, q _ _ k2 k3 (I.hok.fresh (Nat.le_succ _))⟩
def rSortedU (K : PySem.W.Frag) : List V → Hp → VK → Prop := fun xs H Q => rSortedI K xs H Q ∨ rSortedT K xs H Q
variable [kk : KK]
theorem cr_sortedU {X : Cx} : CallR X (.builtin "sorted") (rSortedU X.K) := CallR.or cr_sortedI cr_sortedT
def sortP : PD → Option PD
  | .list ds => (unI ds).bind fun ns => some (.list ((sortI ns).map PyData.int))
  | .tuple ds => (unI ds).bind fun ns => some (.list ((sortI ns).map PyData.int))
  | _ => none
theorem sc_sort : SC (rSortedU K) (on1 sortP) := sc_on1 fun x z h S H v al rv Q q => by
  have fin : ∀ ns ms : List Int, ms.Perm ns → ms.Pairwise (· ≤ ·) → ms = sortI ns := fun ns ms p o => sorted_eq (p.trans (sortI_perm ns).symm) o (sortI_sorted ns)
  cases rv with
  | lst ha ra =>
    obtain ⟨ns, h1, h2⟩ := bind_some h
    have e := unI_eq h1
    subst e
    have e := ra.ints
    subst e
    cases h2
    refine .inl ⟨_, ns, rfl, .inl (.inl (hid_le _ _ ha)), fun ms p pm so hp => ?_⟩
    have e := fin ns ms pm so
    subst e
    exact q _ _ (Ex.new hp) (.lst (new_ok al hp) (RpAll.ofInts _))
  | tup ha _ ra =>
    obtain ⟨ns, h1, h2⟩ := bind_some h
    have e := unI_eq h1
    subst e
    have e := ra.ints
    subst e
    cases h2
    refine .inr ⟨_, ns, rfl, .inl (.inr ⟨_, hid_le _ _ ha⟩), fun ms p pm so hp => ?_⟩
    have e := fin ns ms pm so
    subst e
    exact q _ _ (Ex.new hp) (.lst (new_ok al hp) (RpAll.ofInts _))
  | _ => cases h
end Uv

namespace Uv
open PySem PySem.Spec PyProof.Rows L2
open Evl (Ex)
variable [kk : KK]
abbrev NewL (S : Hs) (H : Hp) (ds : List PD) (Q : VK) : Prop := ∀ p vs H2, Ex H H2 → H p = none → H2 p = some (.lst vs) → RpAll (hid (fun x => x = p ∨ S x) H2) vs ds → Q (.ref p) H2
def RoF (r : R2) (x y : PD) (ds : List PD) : Prop := ∀ S H vx vy, Al S H → Rp (hid S H) vx x → Rp (hid S H) vy y → ∀ Q : VK, NewL S H ds Q → r vx vy H Q
def SOF (r : R2) (f : PD → PD → Option PD) : Prop := ∀ x y z, f x y = some z → ∃ ds, z = .list ds ∧ RoF r x y ds
theorem ex_free {H H1 : Hp} {p : Addr} (e : Ex H H1) (hp : H1 p = none) : H p = none := by
  cases q : H p with
  | none => rfl
  | some o => rw [e _ _ q] at hp; cases hp
section
variable {r : R2} {f : PD → PD → Option PD} {ta tb : TE} {a b : XE}
theorem sef_op (hr : SOF r f) (ha : SE ta a) (hb : SE tb b) : SEF (tOp r ta tb) (xOp f a b) := fun ρ d h => by
  obtain ⟨x, h1, h⟩ := bind_some h
  obtain ⟨y, h2, h⟩ := bind_some h
  obtain ⟨ds, rfl, g⟩ := hr x y d h
  refine ⟨ds, rfl, fun S σ H al en Q q => ha ρ x h1 S σ H al en _ fun v H1 e1 rv => hb ρ y h2 S σ H1 (al.ex e1) (en.ex (hid_ex e1)) _ fun u H2 e2 ru => ?_⟩
  exact g S H2 v u ((al.ex e1).ex e2) (rv.ex (hid_ex e2)) ru Q fun p vs H3 e3 hp h3 ra => q p vs H3 ((e1.trans e2).trans e3) (ex_free (e1.trans e2) hp) h3 ra
end
def catP : PD → PD → Option PD
  | .list xs, .list ys => if xs.length + ys.length ≤ 100000 then some (.list (xs ++ ys)) else none
  | _, _ => none
theorem sof_cat : SOF (rAddU K) catP := fun x y z h => by
  cases x with
  | list xs =>
    cases y with
    | list ys =>
      have h : (if xs.length + ys.length ≤ 100000 then some (PyData.list (xs ++ ys)) else none) = some z := h
      by_cases c : xs.length + ys.length ≤ 100000
      · rw [if_pos c] at h
        cases h
        refine ⟨_, rfl, fun S H vx vy al rx ry Q q => ?_⟩
        cases rx with
        | lst ha ra =>
          cases ry with
          | lst hb rb => exact .inr (.inl ⟨_, _, _, _, rfl, rfl, hid_le _ _ ha, hid_le _ _ hb, by rw [ra.length, rb.length]; exact Evl.sz_of c, fun p hp => q p _ _ (Ex.new hp) hp upd_same ((ra.append rb).ex (hid_cons (Ex.new hp) hp))⟩)
      · rw [if_neg c] at h; cases h
    | _ => cases h
  | _ => cases h
def oIsU : R2 := fun x y H Q => oIsN x y H Q ∨ ∃ b c, x = .bl b ∧ y = .bl c ∧ Q (.bl (b == c)) H
def oNotU : R2 := fun x y H Q => oNotN x y H Q ∨ ∃ b c, x = .bl b ∧ y = .bl c ∧ Q (.bl (b != c)) H
theorem op_isU {X : Cx} : OpR X (compareOp .Is) oIsU := OpR.or op_isN fun pins s σ H x y v u Q I rx ry h => by
  obtain ⟨b, c, rfl, rfl, q⟩ := h
  cases rx
  cases ry
  exact PyProof.Rows.is_bool (fin_bl I q rfl)
theorem op_notU {X : Cx} : OpR X (compareOp .IsNot) oNotU := OpR.or op_notN fun pins s σ H x y v u Q I rx ry h => by
  obtain ⟨b, c, rfl, rfl, q⟩ := h
  cases rx
  cases ry
  exact PyProof.Rows.isnot_bool (fin_bl I q rfl)
def isU : PD → PD → Option PD
  | .bool b, .bool c => some (.bool (b == c))
  | x, .none => some (.bool (isNone x))
  | _, _ => none
def isntU : PD → PD → Option PD
  | .bool b, .bool c => some (.bool (b != c))
  | x, .none => some (.bool (!isNone x))
  | _, _ => none
theorem so_isU : SO oIsU isU := fun x y z h S H vx vy al rx ry Q q => by
  cases ry with
  | non =>
    have e : z = .bool (isNone x) := by cases x <;> (cases h; rfl)
    subst e
    exact .inl ⟨rfl, q _ H (Ex.refl H) (by rw [isNone_of rx]; exact .bl _)⟩
  | bl c =>
    cases rx with
    | bl b => cases h; exact .inr ⟨b, c, rfl, rfl, q _ H (Ex.refl H) (.bl _)⟩
    | _ => cases h
  | _ => cases x <;> cases h
theorem so_isntU : SO oNotU isntU := fun x y z h S H vx vy al rx ry Q q => by
  cases ry with
  | non =>
    have e : z = .bool (!isNone x) := by cases x <;> (cases h; rfl)
    subst e
    exact .inl ⟨rfl, q _ H (Ex.refl H) (by rw [isNone_of rx]; exact .bl _)⟩
  | bl c =>
    cases rx with
    | bl b => cases h; exact .inr ⟨b, c, rfl, rfl, q _ H (Ex.refl H) (.bl _)⟩
    | _ => cases h
  | _ => cases x <;> cases h
section
variable {P : Program} {w : World} {mg : Str → Option Value} {base : Heap}
end
theorem rel_open {env : PySem.Env} {names : List (Str × NameKind)} {x : Str} (h : names.lookup x = some .cell ∨ names.lookup x = some .free) :
    (names.map fun (n, k) => if (k == NameKind.free && env.scope.kind == .function && env.kindOf n == some .cell) then (n, NameKind.cell) else (n, k)).lookup x = some .cell ∨
    (names.map fun (n, k) => if (k == NameKind.free && env.scope.kind == .function && env.kindOf n == some .cell) then (n, NameKind.cell) else (n, k)).lookup x = some .free := by
  induction names with
  | nil => rcases h with h | h <;> cases h
  | cons y ys ih =>
    obtain ⟨n, k⟩ := y
    rw [List.map_cons]
    by_cases c : (k == NameKind.free && env.scope.kind == .function && env.kindOf n == some .cell) = true
    · simp only [c, if_true, List.lookup_cons]
      cases e : x == n with
      | true => exact .inl rfl
      | false => rw [List.lookup_cons, e] at h; exact ih h
    · dsimp only
      rw [if_neg c, List.lookup_cons]
      cases e : x == n with
      | true => rw [List.lookup_cons, e] at h; exact h
      | false => rw [List.lookup_cons, e] at h; exact ih h
theorem blkOk_in {X : Cx} {s : Shared} {H : Hp} {sc0 scope : Scope} {cl : List (Str × Addr)} {C : Addr} {fp : List Addr} {N : List Str} {own : List (Str × Nat)} (hN : (X.blk s H sc0 (compEnvC sc0 cl C X.env) fp).N = N) (h : blkC N sc0 scope own = true) :
    BlkOk (X.blk s H sc0 (compEnvC sc0 cl C X.env) fp).N (X.blk s H sc0 (compEnvC sc0 cl C X.env) fp).env.scope scope own := by
  rw [hN]
  have b := blkOk_by h
  exact ⟨b.kind, b.uniq, b.ix, fun y hy e => rel_open (b.free y hy e), b.own⟩
end Uv

namespace Un
open PySem PySem.Spec PyProof.Rows L2
theorem tuple_mul1 (l : Addr) (its : Array Value) (n : Nat) (dd : Option Addr) (sl : Array (Option Value)) (u : Tok) :
    Meets (Builtin.«tuple.__mul__» ⟨[.ref l, .int 1 u], []⟩) (fun _ R st => st.heap.get? l = some { cls := .type "tuple", dict := dd, data := .seq its n, slots := sl } ∧ R (.ok (.ret (Value.ref l))) st) :=
  .of_wp fun prog w A R st hh => by
    obtain ⟨hp, gn, dr, tk, os⟩ := st
    obtain ⟨hl, hh⟩ := hh
    have f1 := AutoSeq1.idx_int
    have c0 : (decide ((1 : Int) < -(2 ^ 63)) || decide ((1 : Int) ≥ 2 ^ 63)) = false := by decide
    have c1 : (its.isEmpty || (1 : Int) == 1) = true := by simp
    wp_walk using AutoSeq1.wpAny_loadPart' hl
    exact ⟨_, rfl, hh⟩
end Un

namespace Uv
open PySem PySem.Spec PyProof.Rows L2
open Evl (Ex)
section
variable {prog : Program} {w : World} {A : Around} {E : Value → Shared → Prop} {s : Shared}
end
end Uv

namespace Uv
open PySem PySem.Spec PyProof.Rows L2
open Evl (Ex)
theorem tuple_mul0 (l : Addr) (its : Array Value) (n : Nat) (dd : Option Addr) (sl : Array (Option Value)) (u : Tok) (hne : its.isEmpty = false) :
    Meets (Builtin.«tuple.__mul__» ⟨[.ref l, .int 0 u], []⟩) (fun _ R st => st.heap.get? l = some { cls := .type "tuple", dict := dd, data := .seq its n, slots := sl } ∧ R (.ok (.ret (Value.ref st.heap.objs.size))) { st with heap := st.heap.push { cls := Value.type "tuple", data := Data.seq #[] }, toks := st.toks }) :=
  .of_wp fun prog w A R st hh => by
    obtain ⟨hp, gn, dr, tk, os⟩ := st
    obtain ⟨hl, hh⟩ := hh
    have f1 := AutoSeq1.idx_int
    have c0 : (decide ((0 : Int) < -(2 ^ 63)) || decide ((0 : Int) ≥ 2 ^ 63)) = false := by decide
    have c1 : (its.isEmpty || (0 : Int) == 1) = false := by rw [hne]; rfl
    wp_walk using AutoSeq1.wpAny_loadPart' hl
    repeat (first
      | (refine wpAny_ite_false (decide_eq_false (by rw [c0]; exact Bool.false_ne_true)) ?_; wp_walk using AutoSeq1.wpAny_loadPart' hl)
      | (refine wpAny_ite_false (decide_eq_false (by rw [c1]; exact Bool.false_ne_true)) ?_; wp_walk using AutoSeq1.wpAny_loadPart' hl))
    exact ⟨_, rfl, hh⟩
def rRepF (K : PySem.W.Frag) : R2 := fun x y H Q => ∃ l k xs, x = .ref l ∧ y = .int k ∧ SqT K H l xs ∧ xs ≠ [] ∧ 0 ≤ k ∧ k ≤ 1000 ∧ xs.length ≤ 1000 ∧ (k = 1 → Q (.ref l) H) ∧ (k ≠ 1 → ∀ p o, H p = none → Plain o → Q (.ref p) (upd H p (fz o (List.replicate k.toNat xs).flatten)))
theorem op_repF {X : Cx} : OpR X (binaryOp .Mult) (rRepF X.K) := by
  intro pins s σ H x y v u Q I rx ry h
  obtain ⟨l, k, xs, rfl, rfl, hT, hne, h1, h2, hz, q1, q2⟩ := h
  cases rx
  obtain ⟨t, rfl⟩ := ry
  obtain ⟨its, r, ⟨⟨cls, dd, data, sl⟩, ho, hc, n, hd⟩, hs⟩ := I.tuple hT
  simp only at hc hd
  subst hc hd
  have hle : its.length = xs.length := r.length.symm
  have hi : its.toArray.isEmpty = false := by
    cases its with
    | nil => exact absurd (List.eq_nil_of_length_eq_zero hle.symm) hne
    | cons a b => rfl
  refine wpAny_binaryOp_repeat_ref (T := "tuple") (U := "int") (by decide) ⟨_, ho, rfl⟩ (fun s' => typeIs_int s' k t) noFill_tuple_mul F.fills_int_mul F.slot_int_rmul repeat_tuple F.slot_int_index.lookup ?_
  refine call_meets F.slot_int_rmul (typeIs_int s k t) F.entry_int_rmul (F.args_int_rmul_2 _ _) (int_rmul_tuple k t l its.toArray n dd sl) ⟨ho, rfl, ⟨_, ho, rfl⟩, ?_⟩
  have new : ∀ (us : List Value) (vs : List V), Vals vs us → vs.length ≤ sizeLine → (∀ p o, H p = none → Plain o → Q (.ref p) (upd H p (fz o vs))) → EP X pins σ Q (.ref s.heap.objs.size) { s with heap := s.heap.push { cls := Value.type "tuple", data := Data.seq us.toArray }, toks := s.toks } := fun us vs rv hv q => by
    have ok := I.laid (t' := s.toks) (o := fz _ vs) (fun b ob e => Heap.get?_push_of_some _ e) (Nat.le_refl _) (show ObjOk X.prog X.w _ _ _ (.frz _ (.tup vs)) from ⟨Heap.get?_push_size _ rfl, hv, us, rv, IsTup.new _ _⟩)
    exact ⟨.ref s.heap.objs.size, _, ok, rfl, q _ _ (I.hok.fresh (Nat.le_refl _)) ⟨rfl, rfl⟩⟩
  by_cases hk : k = 1
  · subst hk
    exact call_meets F.slot_tuple_mul ⟨_, ho, rfl⟩ F.entry_tuple_mul (F.args_tuple_mul_2 _ _) (Un.tuple_mul1 l its.toArray n dd sl t) ⟨ho, .ref l, H, I, rfl, q1 rfl⟩
  · have q2 := q2 hk
    by_cases h0 : k = 0
    · subst h0
      exact call_meets F.slot_tuple_mul ⟨_, ho, rfl⟩ F.entry_tuple_mul (F.args_tuple_mul_2 _ _) (tuple_mul0 l its.toArray n dd sl t hi) ⟨ho, new [] [] .nil (Nat.zero_le _) q2⟩
    · have hm : ((its.toArray.size : Nat) : Int) * k ≤ 1000000 := by
        rw [List.size_toArray, hle]
        have a1 : ((xs.length : Nat) : Int) * k ≤ 1000 * k := Int.mul_le_mul_of_nonneg_right (by omega) (by omega)
        omega
      have flen : (List.replicate k.toNat its).flatten.length ≤ sizeLine := by
        rw [PyProof.Rows.lm_len_rep_flat, hle, sizeLine_eq]
        have a1 : k.toNat * xs.length ≤ 1000 * 1000 := Nat.mul_le_mul (by omega) hz
        omega
      have rep : ∀ m : Nat, Vals (List.replicate m xs).flatten (List.replicate m its).flatten := fun m => by
        induction m with
        | zero => exact .nil
        | succ m ih => rw [List.replicate_succ, List.replicate_succ, List.flatten_cons, List.flatten_cons]; exact r.append ih
      have c0 : (decide (k < -(2 ^ 63)) || decide (k ≥ 2 ^ 63)) = false := by rw [decide_eq_false (by omega), decide_eq_false (by omega)]; rfl
      have c1 : (its.toArray.isEmpty || k == 1) = false := by rw [hi, Bool.false_or]; exact beq_eq_false_iff_ne.mpr hk
      have c2 : (decide (k ≤ 0) || its.toArray.isEmpty) = false := by rw [hi, Bool.or_false]; exact decide_eq_false (by omega)
      have c4 : Builtin.Tuple.tupleTooMany (((its.toArray.size : Nat) : Int) * k) = false := by unfold Builtin.Tuple.tupleTooMany; rw [sizeLine_eq]; exact decide_eq_false (by omega)
      refine call_meets F.slot_tuple_mul ⟨_, ho, rfl⟩ F.entry_tuple_mul (F.args_tuple_mul_2 _ _) (tuple_mulW l its.toArray n dd sl k t c0 c1 c2 (by omega) c4 (by rw [size_rep, List.size_toArray]; exact flen)) ⟨ho, ?_⟩
      rw [size_rep]
      exact new _ _ (rep k.toNat) (by rw [(rep k.toNat).length]; exact flen) q2
def tPar3 (i j k : Nat) (ta : TA) : TS := fun D σ H => ta σ H fun vs H1 => ∃ v w z, vs = [v, w, z] ∧ D.nx (((σ.set i (some v)).set j (some w)).set k (some z)) H1
theorem ps_par3 {X : Cx} {i j k : Nat} {x y z : Str} {a b c : Expr} {ta : TA} {px py pz pt pos : Pos} {kt k2 pt2} (hc : X.calm = true) (hN : X.N.Nodup) (hi : X.N[i]? = some x) (hj : X.N[j]? = some y) (hk : X.N[k]? = some z) (hij : i ≠ j) (hik : i ≠ k) (hjk : j ≠ k)
    (hx : X.env.scope.names.lookup x = some .local) (hy : X.env.scope.names.lookup y = some .local) (hz : X.env.scope.names.lookup z = some .local) (ha : PA X [a, b, c] ta)
    (hw : swappedStores [.Tuple [.Name x px, .Name y py, .Name z pz] kt pt] (.Tuple [a, b, c] k2 pt2) X.env = pure (some [x, y, z]))
    (hs : swapsWithSole [.Tuple [.Name x px, .Name y py, .Name z pz] kt pt] (.Tuple [a, b, c] k2 pt2) pos.line X.env = pure false := by rfl) :
    PS X (.Assign [.Tuple [.Name x px, .Name y py, .Name z pz] kt pt] (.Tuple [a, b, c] k2 pt2) pos) (tPar3 i j k ta) := by
  refine ⟨fun pins s σ H D I h => ?_⟩
  rw [exec_Assign_arm]
  refine wpAny_bind (wpAny_standAt ?_)
  rw [hs]
  refine wpAny_bind (wpAny_pure ?_)
  rw [if_neg (by decide)]
  refine wpAny_bind (Tuple_ (thn (ha.run _ pins s σ H _ I h) fun us s1 ⟨vs, H1, I1, r1, q1⟩ => ?_))
  obtain ⟨v1, v2, v3, e1, q1⟩ := q1
  subst e1
  obtain ⟨u1, u2, u3, rfl, r1, r2, r3⟩ := vals3 r1
  refine wpAny_newObj_type ?_ (by show 3 ≤ sizeLine; decide)
  have I2 : Inv X pins σ H1 { s1 with heap := s1.heap.push { cls := .type "tuple", data := .seq [u1, u2, u3].toArray } } := I1.kept (t' := s1.toks) fun b o e => Heap.get?_push_of_some _ e
  rw [hw]
  refine wpAny_bind (wpAny_pure ?_)
  show wpAny (model X.prog X.w) X.A (do rule "assign.swapped-stores"; let items ← unpackItems (.ref s1.heap.objs.size) 3 none; assignInOrder [fun v => bindName X.env z v, fun v => bindName X.env y v, fun v => bindName X.env x v] items.reverse; pure Flow.next) _ _ _
  refine wpAny_bind (wpAny_rule (wpAny_bind (unpackItems_tuple (items := #[u1, u2, u3]) (I.ok.hd hc) (IsTup.new s1.heap _) fun h' hx' => ?_)))
  have I3 := I2.kept (h' := h') (t' := s1.toks) fun b o e => hx' b o (Nat.ne_of_lt (Heap.lt_size e)) e
  show wpAny _ _ (assignInOrder [fun v => bindName X.env z v, fun v => bindName X.env y v, fun v => bindName X.env x v] [u3, u2, u1] >>= fun _ => pure Flow.next) _ _ _
  refine wpAny_bind (assignInOrder_cons (wpAny_bindName (store_ok I3 hN hk (.inl hz) r3 (fun s2 I4 => ?_) (.inr hz))))
  refine assignInOrder_cons (wpAny_bindName (store_ok I4 hN hj (.inl hy) r2 (fun s3 I5 => ?_) (.inr hy)))
  refine assignInOrder_cons (wpAny_bindName (store_ok I5 hN hi (.inl hx) r1 (fun s4 I6 => assignInOrder_nil (wpAny_pure ?_)) (.inr hx)))
  rw [List.set_comm _ _ (Ne.symm hjk), List.set_comm _ _ (Ne.symm hik), List.set_comm _ _ (Ne.symm hij)] at I6
  exact ⟨_, H1, I6, q1⟩
section
variable [kk : KK]
def three : List Cel → Option (Cel × Cel × Cel)
  | [a, b, c] => some (a, b, c)
  | _ => none
theorem three_eq {cs : List Cel} {c d e : Cel} (h : three cs = some (c, d, e)) : cs = [c, d, e] := by
  unfold three at h
  split at h
  · cases h; rfl
  · cases h
def sPar3 (i j k : Nat) (as : XWC) : XS := fun ρ => (as ρ).bind fun x => (three x.1).bind fun c => if i < x.2.length ∧ j < x.2.length ∧ k < x.2.length then some (.nxt (((x.2.set i (toSl c.1)).set j (toSl c.2.1)).set k (toSl c.2.2))) else none
theorem cels_split {G H : Hp} {v : V} {vs : List V} {c : Cel} {cs : List Cel} {B : List Addr} (h : Cels G H (v :: vs) (c :: cs) B) : ∃ B1 B2, B = B1 ++ B2 ∧ Cels G H [v] [c] B1 ∧ Cels G H vs cs B2 := by
  cases h with
  | dat r n => exact ⟨[], B, rfl, .dat r .nil, n⟩
  | sub hb r n => exact ⟨[_], _, rfl, .sub hb r .nil, n⟩
  | hal o n => exact ⟨_, _, rfl, by simpa using Cels.hal o Cels.nil, n⟩
theorem ss_par3 {i j k : Nat} {ts : TA} {as : XWC} (hi : i ≠ 0) (hj : j ≠ 0) (hk : k ≠ 0) (hs : SWC ts as) : SS (tPar3 i j k ts) (sPar3 i j k as) := fun pn F T H σ ρ o D st e q => by
  obtain ⟨⟨cs, ρ1⟩, h1, e⟩ := bind_some e
  obtain ⟨⟨c, d, g⟩, h2, e⟩ := bind_some e
  have ec : cs = _ := three_eq h2
  subst ec
  by_cases hl : i < ρ1.length ∧ j < ρ1.length ∧ k < ρ1.length
  · rw [if_pos hl] at e
    cases e
    refine hs pn F T H σ ρ _ ρ1 st h1 _ fun vs B T1 H1 st1 nd off fr vis hc => ?_
    obtain ⟨v, w, z, rfl⟩ : ∃ v w z, vs = [v, w, z] := by
      have := hc.length
      match vs, this with
      | [v, w, z], _ => exact ⟨v, w, z, rfl⟩
    refine ⟨v, w, z, rfl, ?_⟩
    obtain ⟨B1, B', rfl, c1, c'⟩ := cels_split hc
    obtain ⟨B2, B3, rfl, c2, c3⟩ := cels_split c'
    have eF : FL F (B1 ++ (B2 ++ B3)) = FL (FL (FL F B3) B2) B1 := by rw [FL_app, FL_app]; exact FL_perm fun x => by simp only [List.mem_append]; exact ⟨fun h => by rcases h with h | h | h <;> simp [h], fun h => by rcases h with h | h | h <;> simp [h]⟩
    rw [eF] at st1 c1 c2 c3 vis
    have n1 := List.nodup_append.mp nd
    have n2 := List.nodup_append.mp n1.2.1
    obtain ⟨T2, st2, vis2⟩ := StOk.cel (F := FL (FL F B3) B2) hi hl.1 st1 n1.1 (fun x hx y => y.elim (fun y => y.elim (off x (List.mem_append_left _ hx)) fun y => n1.2.2 x hx x (List.mem_append_right _ y) rfl) fun y => n1.2.2 x hx x (List.mem_append_left _ y) rfl) c1
    have c2' := c2.mv vis2 fun x hx => (rfl : H1 x = H1 x)
    obtain ⟨T3, st3, vis3⟩ := StOk.cel (F := FL F B3) hj (by rw [List.length_set]; exact hl.2.1) st2 n2.1 (fun x hx y => y.elim (off x (List.mem_append_right _ (List.mem_append_left _ hx))) fun y => n2.2.2 x hx x y rfl) c2'
    have c3' := c3.mv (vis2.trans vis3) fun x hx => (rfl : H1 x = H1 x)
    obtain ⟨T4, st4, vis4⟩ := StOk.cel (F := F) hk (by rw [List.length_set, List.length_set]; exact hl.2.2) st3 n2.2.1 (fun x hx => off x (List.mem_append_right _ (List.mem_append_right _ hx))) c3'
    exact q _ T4 H1 st4 ⟨fr, ((vis.trans vis2).trans vis3).trans vis4⟩
  · rw [if_neg hl] at e; cases e
def mulU : PD → PD → Option PD
  | .tuple xs, .int j => if xs ≠ [] ∧ 0 ≤ j ∧ j ≤ 1000 ∧ xs.length ≤ 1000 then some (.tuple (List.replicate j.toNat xs).flatten) else none
  | x, y => mulP x y
def rMulV (K : PySem.W.Frag) : R2 := fun x y H Q => rMulU x y H Q ∨ rRepF K x y H Q
theorem op_mulV {X : Cx} : OpR X (binaryOp .Mult) (rMulV X.K) := OpR.or op_mulU op_repF
theorem so_mulV : SO (rMulV K) mulU := fun x y z h S H vx vy al rx ry Q q => by
  cases rx with
  | @tup a o xs ds ha pa ra =>
    cases ry with
    | int j =>
      have h : (if ds ≠ [] ∧ 0 ≤ j ∧ j ≤ 1000 ∧ ds.length ≤ 1000 then some (PyData.tuple (List.replicate j.toNat ds).flatten) else none) = some z := h
      by_cases c : ds ≠ [] ∧ 0 ≤ j ∧ j ≤ 1000 ∧ ds.length ≤ 1000
      · rw [if_pos c] at h
        cases h
        refine .inr ⟨a, j, xs, rfl, rfl, .inl (.inr ⟨_, hid_le _ _ ha⟩), fun e => ?_, c.2.1, c.2.2.1, by rw [ra.length]; exact c.2.2.2, fun e => ?_, fun e p o' hp pl => q _ _ (Ex.new hp) (.tup (new_ok al hp) pl ((ra.rep j.toNat).ex (hid_ex (Ex.new hp))))⟩
        · subst e
          cases ra
          exact c.1 rfl
        · subst e
          refine q _ H (Ex.refl H) ?_
          have e : (List.replicate (1 : Int).toNat ds).flatten = ds := by simp
          rw [e]
          exact .tup ha pa ra
      · rw [if_neg c] at h; cases h
    | _ => cases h
  | int i => exact .inl (so_mul _ _ z (by cases y <;> exact h) S H _ vy al (.int i) ry Q q)
  | lst ha ra => exact .inl (so_mul _ _ z (by cases y <;> exact h) S H _ vy al (.lst ha ra) ry Q q)
  | _ => cases y <;> cases h
end
end Uv

namespace Uv
open PySem PySem.Spec PyProof.Rows L2
open Evl (Ex)
def rGtD (K : PySem.W.Frag) : R2 := fun x y H Q => ∃ d e, Dp K H x d ∧ Dp K H y e ∧ SeqAt.shaped d = true ∧ PySem.W.alike d e = true ∧ d ≠ .none ∧ Q (.bl (PySem.W.dataLt e d)) H
theorem shaped_dep {d : PyData} (h : SeqAt.shaped d = true) : d.depth ≤ 64 := by
  unfold SeqAt.shaped at h
  rw [Bool.and_eq_true] at h
  exact of_decide_eq_true h.2
theorem op_gtD {X : Cx} (hu : X.A.units + 64 < cLine) : OpR X (compareOp .Gt) (rGtD X.K) := by
  intro pins s σ H x y v u Q I rx ry h
  obtain ⟨d, e, hd, he, sd, al, hn, q⟩ := h
  obtain ⟨as, r1⟩ := Dp.reads I d x v hd rx
  obtain ⟨bs, r2⟩ := Dp.reads I e y u he ry
  have := shaped_dep sd
  exact PySem.W.gt_data r1 r2 al hn (by omega) ⟨.bl _, H, I, rfl, q⟩
variable [kk : KK]
def rGtU (K : PySem.W.Frag) : R2 := fun x y H Q => oGt x y H Q ∨ rGtD K x y H Q
theorem op_gtU {X : Cx} (hu : X.A.units + 64 < cLine) : OpR X (compareOp .Gt) (rGtU X.K) := OpR.or op_gt (op_gtD hu)
def gtU : PD → PD → Option PD
  | .int i, .int j => some (.bool (decide (j < i)))
  | x, y => if SeqAt.shaped x = true ∧ SeqAt.shaped y = true ∧ PySem.W.alike x y = true ∧ isNone x = false then some (.bool (PySem.W.dataLt y x)) else none
omit kk in
theorem gtU_eq {x y z : PD} (h : gtU x y = some z) : (∃ i j, x = .int i ∧ y = .int j ∧ z = .bool (decide (j < i))) ∨ (SeqAt.shaped x = true ∧ SeqAt.shaped y = true ∧ PySem.W.alike x y = true ∧ isNone x = false ∧ z = .bool (PySem.W.dataLt y x)) := by
  unfold gtU at h
  split at h
  · cases h
    exact .inl ⟨_, _, rfl, rfl, rfl⟩
  · split at h
    · rename_i c
      cases h
      exact .inr ⟨c.1, c.2.1, c.2.2.1, c.2.2.2, rfl⟩
    · cases h
theorem so_gtU : SO (rGtU K) gtU := fun x y z h S H vx vy al rx ry Q q => by
  rcases gtU_eq h with ⟨i, j, rfl, rfl, rfl⟩ | ⟨c1, c2, c3, c4, rfl⟩
  · cases rx; cases ry
    exact .inl ⟨i, j, rfl, rfl, q _ H (Ex.refl H) (.bl _)⟩
  · refine .inr ⟨x, y, (rx.ex hid_le).dp (nodict c1), (ry.ex hid_le).dp (nodict c2), c1, c3, ?_, q _ H (Ex.refl H) (.bl _)⟩
    rintro rfl
    exact nomatch c4
end Uv

namespace Uv
open PySem PySem.Spec PyProof.Rows L2
open Evl (Ex)
section
variable {prog : Program} {w : World} {A : Around} {E : Value → Shared → Prop} {s : Shared}
end
section
variable {prog : Program} {w : World} {A : Around} {E : Value → Shared → Prop} {s : Shared}
end
variable [kk : KK]
section
variable {S : Hs} {H : Hp}
end
section
variable {ts : TA}
end
end Uv

namespace Uv
open PySem PySem.Spec PyProof.Rows L2
open Evl (Ex)
section
variable {X : Cx} {ta : TE} {a : Expr} {p p2 q pos : Pos}
end
variable [kk : KK]
def insS (x : Int) : List Int → List Int
  | [] => [x]
  | y :: l => if x < y then x :: y :: l else if x = y then y :: l else y :: insS x l
def setS : List Int → List Int
  | [] => []
  | x :: l => insS x (setS l)
end Uv

namespace Uv
open PySem PySem.Spec PyProof.Rows L2
open Evl (Ex)
theorem u1 {k : Nat} {A : Around} (r : Room k A) : A.units + 1 < cLine := by have := r.un; omega
variable [kk : KK]
def hasD (l : List (Int × PD)) (n : Int) : Bool := l.any fun kv => decide (kv.1 = n)
def getD (l : List (Int × PD)) (n : Int) : Option PD := (l.find? fun kv => decide (kv.1 = n)).map (·.2)
section
variable {pn : Pn} {F : Hs} {T : Trs} {H : Hp} {σ : L2.St} {ρ : Env}
end
section
variable {tk te : TE} {k : XE} {w : XW}
end
end Uv

namespace Uv
open PySem PySem.Spec PyProof.Rows L2
open Evl (Ex)
variable [kk : KK]
end Uv

namespace Uv
open PySem PySem.Spec PyProof.Rows L2
open Evl (Ex)
variable [kk : KK]
end Uv

namespace Uv
open PySem PySem.Spec PyProof.Rows L2
open Evl (Ex)
variable [kk : KK]
end Uv

namespace Uv
open PySem PySem.Spec PyProof.Rows L2
open Evl (Ex)
section
variable {X : Cx}
end
end Uv

namespace Uv
open PySem PySem.Spec PyProof.Rows L2
open Evl (Ex)
variable [kk : KK]
end Uv

namespace Uv
open PySem PySem.Spec PyProof.Rows L2
open Evl (Ex)
variable [kk : KK]
end Uv

namespace Uv
open PySem PySem.Spec PyProof.Rows L2
open Evl (Ex)
variable [kk : KK]
structure AlsD (σ : L2.St) (H : Hp) : Prop where
  ex : ∃ a vs c, σ[0]? = some (some (.ref a)) ∧ H a = some (.lst vs) ∧ vs[2]? = some (.ref c) ∧ σ[4]? = some (some (.ref c))
section
variable {pn : Pn} {F : Hs} {T : Trs} {H H' : Hp} {σ : L2.St} {ρ : Env}
end

section
variable {pn : Pn} {F : Hs} {T : Trs} {H H' : Hp} {σ : L2.St} {c : PD} {r : List PD} {n b t0 b0 : Int} {m : PD} {z6 z7 : Sl}
end
end Uv

namespace Uv
open PySem PySem.Spec PyProof.Rows L2
open Evl (Ex)
def rStr1 : List V → Hp → VK → Prop := fun vs H Q => (∃ i, vs = [.int i] ∧ i.natAbs.log2 < 1920 ∧ Q (.str (toString i)) H) ∨ (∃ b : Bool, vs = [.bl b] ∧ Q (.str (if b then "True" else "False")) H) ∨ ∃ x, vs = [.str x] ∧ Q (.str x) H
theorem cr_str1 {X : Cx} : CallR X (.type "str") rStr1 := by
  intro pins s σ H xs us Q I r h
  rcases h with ⟨i, rfl, hz, q⟩ | ⟨b, rfl, q⟩ | ⟨x, rfl, q⟩
  · obtain ⟨u, rfl, t, rfl⟩ := vals1 r
    exact PySem.P.str_of_int hz ⟨.str _, H, I.tok _, ⟨_, rfl⟩, q⟩
  · obtain ⟨u, rfl, r1⟩ := vals1 r
    cases r1
    exact PySem.P.str_of_bool ⟨.str _, H, I.tok _, ⟨_, rfl⟩, q⟩
  · obtain ⟨u, rfl, t, rfl⟩ := vals1 r
    exact PySem.P.str_of_str ⟨.str x, H, I, ⟨t, rfl⟩, q⟩
def strP : PD → Option PD
  | .int i => if i.natAbs.log2 < 1920 then some (.str (toString i)) else none
  | .bool b => some (.str (if b then "True" else "False"))
  | .str x => some (.str x)
  | _ => none
variable [kk : KK]
theorem sc_str1 : SC rStr1 (on1 strP) := sc_on1 fun x z h S H v al rv Q q => by
  cases rv with
  | int i =>
    have h : (if i.natAbs.log2 < 1920 then some (PyData.str (toString i)) else none) = some z := h
    by_cases c : i.natAbs.log2 < 1920
    · rw [if_pos c] at h
      cases h
      exact .inl ⟨i, rfl, c, q _ H (Ex.refl H) (.str _)⟩
    · rw [if_neg c] at h; cases h
  | bl b => cases h; exact .inr (.inl ⟨b, rfl, q _ H (Ex.refl H) (.str _)⟩)
  | str x => cases h; exact .inr (.inr ⟨x, rfl, q _ H (Ex.refl H) (.str _)⟩)
  | _ => cases h
end Uv

namespace Uv
open PySem PySem.Spec PyProof.Rows L2
open Evl (Ex)
variable [kk : KK]
end Uv

namespace Uv
open PySem PySem.Spec PyProof.Rows L2
open Evl (Ex)
variable [kk : KK]
end Uv

namespace Uv
open PySem PySem.Spec PyProof.Rows L2
open Evl (Ex)
section
variable {prog : Program} {w : World} {A : Around} {E : Value → Shared → Prop} {s : Shared}
end
section
variable {prog : Program} {w : World} {A : Around} {E : Value → Shared → Prop} {s : Shared}
end
variable [kk : KK]
section
variable {S : Hs} {H : Hp}
end
section
variable {ts : TA}
end
end Uv

namespace Uv
open PySem PySem.Spec PyProof.Rows L2
open Evl (Ex)
variable [kk : KK]
end Uv

namespace Uv
open PySem PySem.Spec PyProof.Rows L2
open Evl (Ex)
section
variable {prog : Program} {w : World} {A : Around} {E : Value → Shared → Prop} {s : Shared}
end
section
variable {prog : Program} {w : World} {A : Around} {E : Value → Shared → Prop} {s : Shared}
end
variable [kk : KK]
section
variable {S : Hs} {H : Hp}
end
section
variable {ts : TA}
end
end Uv

namespace Uv
open PySem PySem.Spec PyProof.Rows L2
open Evl (Ex)
section
variable {X : Cx}
end
variable [kk : KK]
end Uv

namespace Uv
open PySem PySem.Spec PyProof.Rows L2
open Evl (Ex)
variable [kk : KK]
end Uv

namespace Uv
open PySem PySem.Spec PyProof.Rows L2
open Evl (Ex)
variable [kk : KK]
end Uv

namespace Uv
open PySem PySem.Spec PyProof.Rows L2
open Evl (Ex)
variable [kk : KK]
end Uv

namespace Uv
open PySem PySem.Spec PyProof.Rows L2
open Evl (Ex)
variable [kk : KK]
end Uv

namespace Uv
open PySem PySem.Spec PyProof.Rows L2
open Evl (Ex)
section
variable {P : Program} {w : World} {K : PySem.W.Frag} {mg : Str → Option Value} {base : Heap}
structure FnX (P : Program) (w : World) (K : PySem.W.Frag) (mg : Str → Option Value) (base : Heap) (k : Nat) (f : Addr) (fd : FuncData) (ps : List Str) (sp : Sp) : Prop where
  len : ∀ vs H Q E, sp vs H Q E → vs.length = ps.length
  run : ∀ (A : Around) (outer : List PySem.Env) (s : Shared) (H : Hp) (args : Args) (us : List Value) (vs : List V) (Q : VK) (E : XK), A.guards = some [] → Room k A → Env0 P w K mg base A outer s H → BindsTo s fd args (ps.zip us) → Vals vs us → sp vs H Q E →
    codeAny (model P w) A (.call (.ref f) args) (CR (L2.CX P w) outer P w H s Q E) s
structure CalX (P : Program) (w : World) (K : PySem.W.Frag) (mg : Str → Option Value) (base : Heap) (k : Nat) (x : Str) (sp : Sp) : Prop where
  ex : ∃ (f : Addr) (fd : FuncData) (ps : List Str), FnX P w K mg base k f fd ps sp ∧ mg x = some (.ref f) ∧ PySem.W.keepIn K (.ref f) = true ∧ Binds K fd ps []
theorem pe_gx {X : Cx} {j k : Nat} {x : Str} {sp : Sp} {p pos : Pos} {e : Expr} {es : List Expr} {t : TA} {W : WX} (c : CalX X.prog X.w X.K X.mg X.base k x sp) (hr : Room j X.A) (hk : k ≤ j) (hG : X.A.guards = some []) (hg : Gl X x) (tk : Takes X W) (ha : PA X (e :: es) t)
    (hdb : (x == ("__debug__" : Str)) = false := by decide) (he : starEach (e :: es) X.env = (false, eval e X.env) :: starEach es X.env := by rfl) (hpl : (backTo pos (starEach es X.env)).any (·.1) = false := by rfl) :
    PE X (.Call (.Name x p) (e :: es) [] pos) (tCallS sp (WE W) t) := by
  obtain ⟨f, fd, ps, F, hm, kp, b⟩ := c.ex
  refine ⟨fun pins s σ H Q I h => wpAny_Call_Name_kw (ld_glob I hg hm ?_ hdb)⟩
  refine PySem.W.callWith_K (h₀ := X.base) I.ok.mod.kin kp (thn (ha.run pos pins s σ H _ I h) fun us s1 hh => ?_) he hpl
  obtain ⟨vs, H1, I1, r, q⟩ := hh
  have hl : us.length = ps.length := by rw [← r.length]; exact F.len _ _ _ _ q
  have bd := b s1 us I1.kIn (by rw [List.append_nil]; exact hl)
  rw [List.append_nil] at bd
  refine ⟨I1.kIn, wpAny_call (codeAny_mono (F.run X.A X.stack s1 H1 ⟨us, []⟩ us vs Q (WE W σ) hG (hr.mono hk) I1.env0 bd r q) fun rr s' hq => ?_)⟩
  match rr, hq with
  | .error e, hq => exact passAt tk σ pins H1 s1 e s' I1 hq
  | .ok (.ret u), hq => exact I1.after hq
  | .ok .next, hq => exact hq.elim
  | .ok .brk, hq => exact hq.elim
  | .ok .cont, hq => exact hq.elim
theorem fn_x {x : Str} {st : Stmt} {f : Addr} {fd : FuncData} {N ps : List Str} {k : Nat} {sp : Sp} (F : Fun K x x st f fd) (S : FnScope N ps (defScope st)) (len : ∀ vs H Q E, sp vs H Q E → vs.length = ps.length)
    (hb : ∀ (cdv : Value) (A : Around) (outer : List PySem.Env) (s : Shared) (H : Hp) (E : XK), (A.deeper (envOfC x (defScope st) s.heap.objs.size f cdv)).guards = some [] → Room k (A.deeper (envOfC x (defScope st) s.heap.objs.size f cdv)) →
      ∃ t, PSs (cxOf (L2.CX P w) P w K mg base N x (defScope st) f cdv A outer s H E) (defBody st) t ∧ ∀ vs Q, sp vs H Q E → t { nx := fun _ H' => Q .non H', rt := Q } (L2.start N vs) H) : FnX P w K mg base (k + 1) f fd ps sp := by
  obtain ⟨oc, od, kV, doc, pm, an, cdv, ct, osl, rfl, lk, hcd⟩ := F.ex
  refine ⟨len, fun A outer s H args us vs Q E hG hr e0 hbd r hsp => ?_⟩
  obtain ⟨t, ht, hq⟩ := hb cdv A outer s H E hG (hr.deeper _)
  have keep : ∀ b o, base.get? b = some o → s.heap.get? b = some o := fun b o e => (e0.bs b o e).1
  have KX : K.In s.heap := e0.mod.kin.keeps keep
  have lim : s.heap.NoLimit := e0.mod.nolimit.keeps keep
  refine codeAny_call_function hr.depth (KX _ _ lk) rfl S.co S.gen rfl (PySem.W.codeRec_of KX hcd) (hbd _ _ _ _ ?_)
  refine wpAny_newFunctionEnv_cells S.kind (fun y hy => ?_) fun env he s1 ic => ?_
  · rcases S.par y.1 (List.of_mem_zip hy).1 with q | q
    · exact .inl q
    · exact .inr ⟨q, PySem.W.cellsFrom_some _ _ _ (.inl q)⟩
  · subst he
    have I : Inv (cxOf (L2.CX P w) P w K mg base N x (defScope st) f cdv A outer s H E) [] (L2.start N vs) H s1 := inv_start S hr.hd e0 (len _ _ _ _ hsp) r ic
    refine ⟨lim.keeps ic.toInCall.keep, codeAny_func (wpAny_mono (ht.run [] s1 (L2.start N vs) H _ I (hq vs Q hsp)) (fun fl s' hs => ?_) fun e s' hs => hs)⟩
    match fl, hs with
    | .ret u, ⟨v, σ', H', J, rv, q⟩ => exact ⟨v, H', J.os, J.bare, J.base, J.hok, rv, q⟩
    | .next, ⟨σ', H', J, q⟩ => exact ⟨.non, H', J.os, J.bare, J.base, J.hok, rfl, q⟩
    | .brk, ⟨_, _, _, q⟩ => exact q.elim
    | .cont, ⟨_, _, _, q⟩ => exact q.elim
theorem cal_x {x : Str} {st : Stmt} {N ps : List Str} {k : Nat} {sp : Sp} (F : Dfn K mg x st ps) (S : FnScope N ps (defScope st)) (len : ∀ vs H Q E, sp vs H Q E → vs.length = ps.length)
    (hb : ∀ (f : Addr) (cdv : Value) (A : Around) (outer : List PySem.Env) (s : Shared) (H : Hp) (E : XK), (A.deeper (envOfC x (defScope st) s.heap.objs.size f cdv)).guards = some [] → Room k (A.deeper (envOfC x (defScope st) s.heap.objs.size f cdv)) →
      ∃ t, PSs (cxOf (L2.CX P w) P w K mg base N x (defScope st) f cdv A outer s H E) (defBody st) t ∧ ∀ vs Q, sp vs H Q E → t { nx := fun _ H' => Q .non H', rt := Q } (L2.start N vs) H) : CalX P w K mg base (k + 1) x sp := by
  obtain ⟨f, fd, F, hm, b⟩ := F.ex
  exact ⟨f, fd, ps, fn_x F S len (hb f), hm, F.kp, b⟩
end
theorem takes_no {X : Cx} : Takes X (fun _ _ _ _ => False) := fun _ _ x => by
  obtain ⟨_, _, _, _, _, _, _, _, _, _, _, _, _, _, _, _, z⟩ := x
  exact z.elim
variable [kk : KK]
section
variable {W : WX} {cl : Nat → Value} {t u : TS} {x y : XS} {ct : TT} {c : XWT}
end
end Uv

namespace Uv
open PySem PySem.Spec PyProof.Rows L2
open Evl (Ex)
theorem vals_refsE : ∀ {Cs : List Addr} {us : List Value}, Vals (Cs.map V.ref) us → us = Cs.map Value.ref
  | [], _, .nil => rfl
  | C :: Cs, u :: us, .cons h r => by
    have : u = Value.ref C := h
    rw [this, vals_refsE r]
    rfl
theorem kit_ref {K : PySem.W.Frag} {t : Value} {C : Addr} {b : Bool} (hd : PySem.W.hasDictIn K C = true) (ht : PySem.W.typeIn K (.ref C) = some (.type "type")) (h : PySem.W.subIn K t (.ref C) = some b) (hs : t = .ref C → b = true) : PySem.W.kitOne K t (.ref C) = some b := by
  obtain ⟨cd, hc, _⟩ := PySem.W.any_some hd
  unfold PySem.W.kitOne
  by_cases z : (t == Value.ref C) = true
  · rw [if_pos z, hs (by simpa using z)]
  · rw [if_neg z]
    unfold PySem.W.kitCls
    have e2 : ((PySem.W.clsIn K C).isSome && PySem.W.typeIn K (.ref C) == some (.type "type")) = true := by rw [hc, ht] <;> rfl
    show (if ((PySem.W.clsIn K C).isSome && PySem.W.typeIn K (.ref C) == some (.type "type")) = true then PySem.W.subIn K t (.ref C) else none) = some b
    rw [if_pos e2, h]
variable [kk : KK]
end Uv

namespace Uv
open PySem PySem.Spec PyProof.Rows L2
open Evl (Ex)
variable [kk : KK]
end Uv

namespace Uv
open PySem PySem.Spec PyProof.Rows L2
open Evl (Ex)
section
variable {P : Program} {w : World} {K : PySem.W.Frag} {mg : Str → Option Value} {base : Heap}
end
end Uv

namespace Uv
open PySem PySem.Spec PyProof.Rows L2
open Evl (Ex)
variable [kk : KK]
section
variable {W : WX} {cl : Nat → Value}
end
end Uv

namespace Uv
open PySem PySem.Spec PyProof.Rows L2
open Evl (Ex)
section
variable {P : Program} {w : World} {K : PySem.W.Frag} {mg : Str → Option Value} {base : Heap}
end
variable [kk : KK]
section
variable {X : Cx} {j k : Nat} {x kw : Str} {sp : Sp} {p pos kpos : Pos} {e ke : Expr} {es : List Expr} {t : TA} {te : TE}
end
end Uv

namespace Uv
open PySem PySem.Spec PyProof.Rows L2
open Evl (Ex)
variable [kk : KK]
end Uv

namespace Uv
open PySem PySem.Spec PyProof.Rows L2
open Evl (Ex)
variable [kk : KK]
end Uv

namespace Uv
open PySem PySem.Spec PyProof.Rows L2
open Evl (Ex)
variable [kk : KK]
end Uv
namespace Uv
end Uv

namespace Uv
open PySem PySem.Spec PyProof.Rows L2
open Evl (Ex)
section
variable {prog : Program} {w : World} {A : Around}
end
variable [kk : KK]
section
variable {X : Cx} {ta te : TE} {a ke : Expr} {p pos kpos : Pos}
end
end Uv

namespace Uv
open PySem PySem.Spec PyProof.Rows L2
open Evl (Ex)
section
variable {prog : Program} {w : World} {A : Around} {K : Type} [DecidableEq K]
end
section
variable {X : Cx} {ta : TE} {a : Expr} {p p2 q pos : Pos}
end
variable [kk : KK]
end Uv

namespace Uv
open PySem PySem.Spec PyProof.Rows L2
open Evl (Ex)
section
variable {P : Program} {w : World} {A : Around}
end
variable [kk : KK]
end Uv

namespace Uv
open PySem PySem.Spec PyProof.Rows L2
open Evl (Ex)
section
variable {prog : Program} {w : World} {A : Around}
end
variable [kk : KK]
end Uv

namespace Uv
open PySem PySem.Spec PyProof.Rows L2
open Evl (Ex)
variable [kk : KK]
end Uv

namespace Uv
open PySem PySem.Spec PyProof.Rows L2
open Evl (Ex)
variable [kk : KK]
end Uv

namespace Uv
open PySem PySem.Spec PyProof.Rows L2
open Evl (Ex)
def rJoinS (K : PySem.W.Frag) : V → List V → Hp → VK → Prop := fun x xs H Q => ∃ a p, ∃ ys : List Str, x = .str a ∧ xs = [.ref p] ∧ (SqL K H p (ys.map V.str) ∨ SqT K H p (ys.map V.str)) ∧ (ys.map (·.length)).sum + ys.length * a.length ≤ 16777216 ∧ Q (.str (Txt.join a ys)) H
def rSplitS : V → List V → Hp → VK → Prop := fun x xs H Q => ∃ a b, x = .str a ∧ xs = [.str b] ∧ (b.length == 0) = false ∧ a.length + 2 ≤ sizeLine ∧ rNewStrs (Txt.split a b) H Q
def rStartS : V → List V → Hp → VK → Prop := fun x xs H Q => ∃ a b, x = .str a ∧ xs = [.str b] ∧ Q (.bl (Txt.startswith a b)) H
def rDigS : V → List V → Hp → VK → Prop := fun x xs H Q => ∃ a, x = .str a ∧ xs = [] ∧ True ∧ Q (.bl (Txt.isdigit a)) H
def rAscS : V → List V → Hp → VK → Prop := fun x xs H Q => ∃ a, x = .str a ∧ xs = [] ∧ True ∧ Q (.bl (Txt.isascii a)) H
section
variable {X : Cx} {o e : Expr} {to te : TE}
theorem pe_joinS {apos pos : Pos} (ho : PE X o to) (he : PE X e te) (hs : starEach [e] X.env = [(false, eval e X.env)] := by rfl) (hbase : attributeBase o "join" X.env (eval o X.env) = eval o X.env := by rfl) (hline : (apos.endLine == pos.line) = true := by rfl) :
    PE X (.Call (.Attribute o "join" apos) [e] [] pos) (tM1 (rJoinS X.K) to te) := pe_m1 F.slot_str_join F.type_str_join mt_join ho he hs hbase hline
theorem pe_splitS {apos pos : Pos} (ho : PE X o to) (he : PE X e te) (hs : starEach [e] X.env = [(false, eval e X.env)] := by rfl) (hbase : attributeBase o "split" X.env (eval o X.env) = eval o X.env := by rfl) (hline : (apos.endLine == pos.line) = true := by rfl) :
    PE X (.Call (.Attribute o "split" apos) [e] [] pos) (tM1 rSplitS to te) := pe_m1 F.slot_str_split F.type_str_split mt_split ho he hs hbase hline
theorem pe_startS {apos pos : Pos} (ho : PE X o to) (he : PE X e te) (hs : starEach [e] X.env = [(false, eval e X.env)] := by rfl) (hbase : attributeBase o "startswith" X.env (eval o X.env) = eval o X.env := by rfl) (hline : (apos.endLine == pos.line) = true := by rfl) :
    PE X (.Call (.Attribute o "startswith" apos) [e] [] pos) (tM1 rStartS to te) := pe_m1 F.slot_str_startswith F.type_str_startswith mt_startswith ho he hs hbase hline
theorem pe_digS {apos pos : Pos} (ho : PE X o to) (hbase : attributeBase o "isdigit" X.env (eval o X.env) = eval o X.env := by rfl) (hline : (apos.endLine == pos.line) = true := by rfl) :
    PE X (.Call (.Attribute o "isdigit" apos) [] [] pos) (tM0 rDigS to) := pe_m0 F.slot_str_isdigit F.type_str_isdigit mt_isdigit ho hbase hline
theorem pe_ascS {apos pos : Pos} (ho : PE X o to) (hbase : attributeBase o "isascii" X.env (eval o X.env) = eval o X.env := by rfl) (hline : (apos.endLine == pos.line) = true := by rfl) :
    PE X (.Call (.Attribute o "isascii" apos) [] [] pos) (tM0 rAscS to) := pe_m0 F.slot_str_isascii F.type_str_isascii mt_isascii ho hbase hline
end
def rLenS : List V → Hp → VK → Prop := fun xs H Q => ∃ z, xs = [.str z] ∧ z.length ≤ sizeLine ∧ Q (.int z.length) H
def rIntS : List V → Hp → VK → Prop := fun xs H Q => ∃ a n, xs = [.str a] ∧ PySem.intText? a = some n ∧ a.length ≤ 640 ∧ Q (.int n) H
def oAddS : R2 := fun x y H Q => ∃ i j, x = .str i ∧ y = .str j ∧ i.length + j.length ≤ sizeLine ∧ Q (.str (i ++ j)) H
def tJoined (ts : List TE) : TE := fun σ H Q => tJs ts Str.empty σ H fun out H1 => Q (.str out) H1
variable [kk : KK]
def rAddX (K : PySem.W.Frag) : R2 := fun x y H Q => rAddU K x y H Q ∨ oAddS x y H Q
theorem op_addX {X : Cx} : OpR X (binaryOp .Add) (rAddX X.K) := OpR.or op_addU op_add_str
def unS : List PD → Option (List Str)
  | [] => some []
  | .str y :: r => (unS r).map (y :: ·)
  | _ => none
theorem unS_eq : ∀ {ds : List PD} {ys : List Str}, unS ds = some ys → ds = ys.map PyData.str := by
  intro ds
  induction ds with
  | nil => intro ys h; cases h; rfl
  | cons d r ih =>
    intro ys h
    unfold unS at h
    split at h
    · rename_i e; cases e
    · rename_i y r' e
      cases e
      cases q : unS r with
      | none => rw [q] at h; cases h
      | some ms =>
        rw [q] at h
        cases h
        rw [ih q]
        rfl
    · cases h
theorem unS_map : ∀ ys : List Str, unS (ys.map PyData.str) = some ys
  | [] => rfl
  | y :: ys => by
    show (unS (ys.map PyData.str)).map _ = _
    rw [unS_map ys]
    rfl
theorem RpAll.strs {H : Hp} : ∀ {vs : List V} {ys : List Str}, RpAll H vs (ys.map PyData.str) → vs = ys.map V.str
  | [], [], .nil => rfl
  | _ :: _, _ :: _, .cons h t => by cases h; rw [RpAll.strs t]; rfl
theorem RpAll.ofStrs {H : Hp} : ∀ ys : List Str, RpAll H (ys.map V.str) (ys.map PyData.str)
  | [] => .nil
  | y :: ys => .cons (.str y) (RpAll.ofStrs ys)
def joinT : PD → PD → Option PD
  | .str a, .list ds => (unS ds).bind fun ys => if (ys.map (·.length)).sum + ys.length * a.length ≤ 16777216 then some (.str (Txt.join a ys)) else none
  | _, _ => none
def splitT : PD → PD → Option PD
  | .str a, .str b => if (b.length == 0) = false ∧ a.length ≤ 16000000 then some (.list ((Txt.split a b).map PyData.str)) else none
  | _, _ => none
def startsT : PD → PD → Option PD
  | .str a, .str b => some (.bool (Txt.startswith a b))
  | _, _ => none
def isdigT : PD → Option PD
  | .str a => some (.bool (Txt.isdigit a))
  | _ => none
def isascT : PD → Option PD
  | .str a => some (.bool (Txt.isascii a))
  | _ => none
def SM1 (r : V → List V → Hp → VK → Prop) (f : PD → PD → Option PD) : Prop := ∀ x y z, f x y = some z → ∃ a, x = .str a ∧ ∀ S H vy, Al S H → Rp (hid S H) vy y → ∀ Q : VK, (∀ v H2, Ex H H2 → Rp (hid S H2) v z → Q v H2) → r (.str a) [vy] H Q
def SM0 (r : V → List V → Hp → VK → Prop) (f : PD → Option PD) : Prop := ∀ x z, f x = some z → ∃ a, x = .str a ∧ ∀ S H, Al S H → ∀ Q : VK, (∀ v H2, Ex H H2 → Rp (hid S H2) v z → Q v H2) → r (.str a) [] H Q
section
variable {ta tb : TE} {a b : XE} {r : V → List V → Hp → VK → Prop}
theorem se_m1 {f : PD → PD → Option PD} (sm : SM1 r f) (ha : SE ta a) (hb : SE tb b) : SE (tM1 r ta tb) (xOp f a b) := fun ρ d h S σ H al en Q q => by
  obtain ⟨x, h1, h⟩ := bind_some h
  obtain ⟨y, h2, h⟩ := bind_some h
  refine ha ρ x h1 S σ H al en _ fun vx H1 e1 rx => ?_
  obtain ⟨s, rfl, k⟩ := sm x y d h
  cases rx
  exact ⟨⟨s, rfl⟩, hb ρ y h2 S σ H1 (al.ex e1) (en.ex (hid_ex e1)) _ fun vy H2 e2 ry => k S H2 vy ((al.ex e1).ex e2) ry Q fun v H3 e3 rv => q v H3 ((e1.trans e2).trans e3) rv⟩
theorem se_m0 {f : PD → Option PD} (sm : SM0 r f) (ha : SE ta a) : SE (tM0 r ta) (xUn f a) := fun ρ d h S σ H al en Q q => by
  obtain ⟨x, h1, h⟩ := bind_some h
  refine ha ρ x h1 S σ H al en _ fun vx H1 e1 rx => ?_
  obtain ⟨s, rfl, k⟩ := sm x d h
  cases rx
  exact ⟨⟨s, rfl⟩, k S H1 (al.ex e1) Q fun v H3 e3 rv => q v H3 (e1.trans e3) rv⟩
end
theorem sm_join : SM1 (rJoinS K) joinT := fun x y z h => by
  unfold joinT at h
  split at h
  · rename_i a ds
    refine ⟨a, rfl, fun S H vy al ry Q q => ?_⟩
    cases ry with
    | lst ha ra =>
      obtain ⟨ys, h1, h2⟩ := bind_some h
      have e := unS_eq h1
      subst e
      have e := ra.strs
      subst e
      by_cases c : (ys.map (·.length)).sum + ys.length * a.length ≤ 16777216
      · rw [if_pos c] at h2
        cases h2
        exact ⟨a, _, ys, rfl, rfl, .inl (.inl (.inl (hid_le _ _ ha))), c, q _ H (Ex.refl H) (.str _)⟩
      · rw [if_neg c] at h2; cases h2
  · cases h
theorem sm_split : SM1 rSplitS splitT := fun x y z h => by
  unfold splitT at h
  split at h
  · rename_i a b
    refine ⟨a, rfl, fun S H vy al ry Q q => ?_⟩
    cases ry
    by_cases c : (b.length == 0) = false ∧ a.length ≤ 16000000
    · rw [if_pos c] at h
      cases h
      refine ⟨a, b, rfl, rfl, c.1, by rw [sizeLine_eq]; omega, fun p hp => ?_⟩
      exact q _ _ (Ex.new hp) (.lst (new_ok al hp) (RpAll.ofStrs _))
    · rw [if_neg c] at h; cases h
  · cases h
theorem sm_start : SM1 rStartS startsT := fun x y z h => by
  unfold startsT at h
  split at h
  · rename_i a b
    cases h
    refine ⟨a, rfl, fun S H vy al ry Q q => ?_⟩
    cases ry
    exact ⟨a, b, rfl, rfl, q _ H (Ex.refl H) (.bl _)⟩
  · cases h
theorem sm_dig : SM0 rDigS isdigT := fun x z h => by
  unfold isdigT at h
  split at h
  · rename_i a
    cases h
    exact ⟨a, rfl, fun S H al Q q => ⟨a, rfl, rfl, trivial, q _ H (Ex.refl H) (.bl _)⟩⟩
  · cases h
theorem sm_asc : SM0 rAscS isascT := fun x z h => by
  unfold isascT at h
  split at h
  · rename_i a
    cases h
    exact ⟨a, rfl, fun S H al Q q => ⟨a, rfl, rfl, trivial, q _ H (Ex.refl H) (.bl _)⟩⟩
  · cases h
def lenT : PD → Option PD
  | .str z => if z.length ≤ 16000000 then some (.int z.length) else none
  | _ => none
theorem sc_lenS : SC rLenS (on1 lenT) := sc_on1 fun x z h S H v al rv Q q => by
  cases rv with
  | str x =>
    have h : (if x.length ≤ 16000000 then some (PyData.int x.length) else none) = some z := h
    by_cases c : x.length ≤ 16000000
    · rw [if_pos c] at h
      cases h
      exact ⟨x, rfl, by rw [sizeLine_eq]; omega, q _ H (Ex.refl H) (.int _)⟩
    · rw [if_neg c] at h; cases h
  | _ => cases h
def intT : PD → Option PD
  | .str a => (PySem.intText? a).bind fun n => if a.length ≤ 640 then some (.int n) else none
  | _ => none
theorem sc_intS : SC rIntS (on1 intT) := sc_on1 fun x z h S H v al rv Q q => by
  cases rv with
  | str x =>
    obtain ⟨n, h1, h2⟩ := bind_some (show (PySem.intText? x).bind (fun n => if x.length ≤ 640 then some (PyData.int n) else none) = some z from h)
    by_cases c : x.length ≤ 640
    · rw [if_pos c] at h2
      cases h2
      exact ⟨x, n, rfl, h1, c, q _ H (Ex.refl H) (.int _)⟩
    · rw [if_neg c] at h2; cases h2
  | _ => cases h
def addX : PD → PD → Option PD
  | .str i, .str j => if i.length + j.length ≤ 16000000 then some (.str (i ++ j)) else none
  | x, y => addP x y
theorem so_addX : SO (rAddX K) addX := fun x y z h S H vx vy al rx ry Q q => by
  unfold addX at h
  split at h
  · rename_i i j
    cases rx
    cases ry
    by_cases c : i.length + j.length ≤ 16000000
    · rw [if_pos c] at h
      cases h
      exact .inr ⟨i, j, rfl, rfl, by rw [sizeLine_eq]; omega, q _ H (Ex.refl H) (.str _)⟩
    · rw [if_neg c] at h; cases h
  · exact .inl (so_add x y z h S H vx vy al rx ry Q q)
def fmtT : PD → Option PD
  | .str y => if y.length ≤ 16000000 then some (.str y) else none
  | .int i => if i.natAbs.log2 < 1920 then some (.str (toString i)) else none
  | _ => none
theorem se_fmt {te : TE} {x : XE} (h : SE te x) : SE (tFmt te) (xUn fmtT x) := fun ρ d e S σ H al en Q q => by
  obtain ⟨y, h1, e⟩ := bind_some e
  refine h ρ y h1 S σ H al en _ fun v H1 e1 rv => ?_
  cases rv with
  | str y =>
    have e : (if y.length ≤ 16000000 then some (PyData.str y) else none) = some d := e
    by_cases c : y.length ≤ 16000000
    · rw [if_pos c] at e
      cases e
      exact .inl ⟨y, rfl, by rw [sizeLine_eq]; omega, q _ H1 e1 (.str y)⟩
    · rw [if_neg c] at e; cases e
  | int i =>
    have e : (if i.natAbs.log2 < 1920 then some (PyData.str (toString i)) else none) = some d := e
    by_cases c : i.natAbs.log2 < 1920
    · rw [if_pos c] at e
      cases e
      exact .inr ⟨i, rfl, c, q _ H1 e1 (.str _)⟩
    · rw [if_neg c] at e; cases e
  | _ => cases e
def xJs : List XE → Str → XE
  | [], acc => fun _ => some (.str acc)
  | x :: xs, acc => fun ρ => (x ρ).bind fun d => match d with
    | .str y => if (acc ++ y).length ≤ 16000000 then xJs xs (acc ++ y) ρ else none
    | _ => none
inductive SEs : List TE → List XE → Prop
  | nil : SEs [] []
  | cons {t : TE} {x : XE} {ts : List TE} {xs : List XE} : SE t x → SEs ts xs → SEs (t :: ts) (x :: xs)
theorem se_js {ts : List TE} {xs : List XE} (h : SEs ts xs) : ∀ acc : Str, SE (fun σ H Q => tJs ts acc σ H fun out H1 => Q (.str out) H1) (xJs xs acc) := by
  induction h with
  | nil =>
    intro acc ρ d e S σ H al en Q q
    cases e
    exact q _ H (Ex.refl H) (.str acc)
  | @cons t x ts xs h1 h2 ih =>
    intro acc ρ d e S σ H al en Q q
    obtain ⟨y, hy, e⟩ := bind_some (show (x ρ).bind _ = some d from e)
    refine h1 ρ y hy S σ H al en _ fun v H1 e1 rv => ?_
    cases rv with
    | str y =>
      have e : (if (acc ++ y).length ≤ 16000000 then xJs xs (acc ++ y) ρ else none) = some d := e
      by_cases c : (acc ++ y).length ≤ 16000000
      · rw [if_pos c] at e
        exact ⟨y, rfl, by rw [sizeLine_eq]; omega, ih (acc ++ y) ρ d e S σ H1 (al.ex e1) (en.ex (hid_ex e1)) Q fun v H2 e2 rv => q v H2 (e1.trans e2) rv⟩
      · rw [if_neg c] at e; cases e
    | _ => cases e
theorem se_joined {ts : List TE} {xs : List XE} (h : SEs ts xs) : SE (tJoined ts) (xJs xs Str.empty) := se_js h Str.empty
end Uv

namespace Uv
open PySem PySem.Spec PyProof.Rows L2
open Evl (Ex)
def spI (C : Addr) (fld : Str) : Sp := fun vs H Q E => ∃ (a : Addr) (v : V), vs = [.ref a, v] ∧ H a = some (exo a C none) ∧ ∀ dx, H dx = none → dx ≠ a → Q .non (upd (upd H dx (exd dx [(fld, v)])) a (exo a C (some dx)))
theorem fn_init {P : Program} {w : World} {K : PySem.W.Frag} {mg : Str → Option Value} {base : Heap} {CX : CXT} {C f : Addr} {fld name qual : Str} {params : Arguments} {body : List Stmt} {scope : Scope} {dV kV doc pm cdv ct oc : Value} {an od : Option Addr}
    {osl : Array (Option Value)} (lk : K.lookup f = some ⟨oc, od, .func (PySem.W.fnOf name qual params body scope dV kV doc pm an cdv ct), osl⟩) (hcd : PySem.W.codeIn K cdv qual = true) (S : FnScope ["self", fld] ["self", fld] scope)
    (T : OexC K C) (hno : PySem.W.findIn K (.ref C) fld = some none)
    (hb : ∀ (A : Around) (outer : List PySem.Env) (s : Shared) (H : Hp) (E : XK), PSs (cxOf CX P w K mg base ["self", fld] qual scope f cdv A outer s H E) body (tOst K fld (tVar 0) (tVar 1))) :
    FnOk P w K mg base CX 1 f (PySem.W.fnOf name qual params body scope dV kV doc pm an cdv ct) ["self", fld] (spI C fld) := by
  refine fn_of lk hcd S (fun vs H Q E h => ?_) fun A outer s H vs Q E hr h => ⟨_, hb A outer s H E, ?_⟩
  · obtain ⟨a, v, rfl, _⟩ := h
    rfl
  · obtain ⟨a, v, rfl, ea, q⟩ := h
    exact ⟨v, rfl, .ref a, rfl, a, C, rfl, T, hno, .inl ⟨ea, fun dx hn hne => q dx hn hne⟩⟩
def tRv (W : WX) (C : Addr) (fld : Str) (te : TE) : TS := fun _ σ H => tMkO C (spI C fld) [] (tCons te tNil) σ H fun cls d H' => W cls d σ H'
theorem ps_rv {X : Cx} {W : WX} {x : Str} {C fI : Addr} {fd : FuncData} {fld : Str} {e : Expr} {te : TE} {p pos pos' : Pos} {j : Nat} (hc : X.calm = true) (tk : Takes X W) (T : OexC X.K C) (iC : PySem.W.findIn X.K (.ref C) "__init__" = some (some (.ref fI))) (tI : PySem.W.typeIn X.K (.ref fI) = some (.type "function"))
    (F1 : FnOk X.prog X.w X.K X.mg X.base (L2.CX X.prog X.w) 1 fI fd ["self", fld] (spI C fld)) (hr : Room j X.A) (hk : 2 ≤ j) (hb : Binds X.K fd ["self", fld] []) (hg : Gl X x) (hm : X.mg x = some (.ref C)) (he : PE X e te)
    (hdb : (x == ("__debug__" : Str)) = false := by decide) (he' : starEach [e] X.env = (false, eval e X.env) :: starEach [] X.env := by rfl) (hpl : (backTo pos (starEach [] X.env)).any (·.1) = false := by rfl) : PS X (.Raise (some (.Call (.Name x p) [e] [] pos)) none pos') (tRv W C fld te) :=
  ps_raise hc tk (pmk_oex T iC tI F1 (hr.mono hk) hb .nil (fun pins σ H s e s' I c => passes_call tk (E := fun _ _ _ => False) (fun _ _ _ _ z => z.elim) pins σ H s e s' I c) hg hm (pa_cons he pa_nil (hs := he')) hdb he' hpl)
variable [kk : KK]
section
variable {W : WX} {cl : Nat → Value} {fld : Str} {t u : TS} {x y : XS} {ct : TT} {c : XWT}
theorem ex_let {H : Hp} {a dx : Addr} {u u' : HO} {o o' : HO} (ha : H a = none) (hd : H dx = none) : Ex H (upd (L2.del (upd (upd (upd H a u) dx u') a o) a) dx o') := fun b z e => by
  have b1 : b ≠ a := fun e1 => by rw [e1, ha] at e; cases e
  have b2 : b ≠ dx := fun e1 => by rw [e1, hd] at e; cases e
  rw [upd_ne b2, del_ne b1, upd_ne b1, upd_ne b2, upd_ne b1]
  exact e
end
end Uv

namespace Uv
open PySem PySem.Spec PyProof.Rows L2
open Evl (Ex)
theorem kitx_exD {K : PySem.W.Frag} {D x : Addr} {ox : Obj} {od : Option Obj} (C : ExcC K D) : PySem.W.KitX K (.ref x) (.ref D) (fun h => PySem.W.InstAt h x ox D od) :=
  PySem.W.kitx_exc (by obtain ⟨cd, hc, _⟩ := PySem.W.any_some C.hd; rw [hc]; rfl) C.hg C.hk C.hs C.ha C.hn C.ht C.hm
end Uv

namespace Uv
open PySem PySem.Spec PyProof.Rows L2
open Evl (Ex)
variable [kk : KK]
section
variable {W : WX} {cl : Nat → Value} {fld : Str}
end
end Uv

namespace Uv
open PySem PySem.Spec PyProof.Rows L2
open Evl (Ex)
variable [kk : KK]
def sgnD (z : Str) : List PD := z.cps.toList.map fun c => .str ⟨#[c]⟩
def xiS (a : XE) : XI := fun ρ => (a ρ).bind fun d => match d with
  | .str z => some (sgnD z)
  | _ => none
theorem si_str {te : TE} {a : XE} (ha : SE te a) : SI false (iStr te) (xiS a) := fun ρ xs h S σ H al en R q => by
  obtain ⟨d, h1, h⟩ := bind_some h
  cases d with
  | str z =>
    have h : some (sgnD z) = some xs := h
    cases h
    refine ha ρ _ h1 S σ H al en _ fun v H1 e1 rv => ?_
    cases rv
    refine ⟨z, rfl, q _ H1 e1 fun S' H2 e2 al2 => ⟨?_, fun i x hx => ?_⟩⟩
    · show z.cps.size ≤ (sgnD z).length
      unfold sgnD
      rw [List.length_map, Array.length_toList]
      exact Nat.le_refl _
    · unfold sgnD at hx
      rw [List.getElem?_map] at hx
      cases g : z.cps.toList[i]? with
      | none => rw [g] at hx; cases hx
      | some c =>
        rw [g] at hx
        cases hx
        obtain ⟨hi, ec⟩ := List.getElem?_eq_some_iff.mp g
        have hi2 : i < z.cps.size := by rw [Array.length_toList] at hi; exact hi
        refine ⟨hi2, fun v H3 y => ?_⟩
        obtain ⟨y1, c', y2, y3⟩ := y
        subst y1 y3
        have : c' = c := by
          rw [Array.getElem?_eq_getElem hi2] at y2
          rw [← ec, Array.getElem_toList]
          exact (Option.some.inj y2).symm
        rw [this]
        exact ⟨Ex.refl _, .inl (.str _)⟩
  | _ => cases h
def notinS : PD → PD → Option PD
  | .str x, .str z => match x.cps.toList with
    | [c] => some (.bool (!decide (c ∈ z.cps.toList)))
    | _ => none
  | _, _ => none
theorem so_notinS : SO rNotInS notinS := fun x y z h S H vx vy al rx ry Q q => by
  unfold notinS at h
  split at h
  · rename_i a b
    split at h
    · rename_i c e
      cases h
      cases rx
      cases ry
      have : a = ⟨#[c]⟩ := TL.ext_tl (by show a.cps.toList = _; rw [e])
      subst this
      exact ⟨c, b, rfl, rfl, q _ H (Ex.refl H) (.bl _)⟩
    · cases h
  · cases h
def ixT : PD → PD → Option PD
  | .str z, .int i => if z.length ≤ 16000000 then (L2.atI z.cps.toList i).map fun c => .str ⟨#[c]⟩ else none
  | x, y => ixP x y
theorem so_ixT : SO (rIx K) ixT := fun x y z h S H vx vy al rx ry Q q => by
  unfold ixT at h
  split at h
  · rename_i w i
    by_cases c : w.length ≤ 16000000
    · rw [if_pos c] at h
      cases g : L2.atI w.cps.toList i with
      | none => rw [g] at h; cases h
      | some k =>
        rw [g] at h
        cases h
        cases rx
        cases ry
        exact .inr (.inr ⟨w, i, k, rfl, rfl, by rw [sizeLine_eq]; omega, g, q _ H (Ex.refl H) (.str _)⟩)
    · rw [if_neg c] at h; cases h
  · exact so_ix x y z h S H vx vy al rx ry Q q
def slS : PD → Option Int → Option Int → Option PD
  | .str z, lo, hi => if z.length ≤ 16000000 then some (.str (L2.cutS z lo hi)) else none
  | _, _, _ => none
def xSlS (a : XE) (lo hi : XO) : XE := fun ρ => (a ρ).bind fun d => (lo ρ).bind fun l => (hi ρ).bind fun h => slS d l h
theorem se_slS {ta : TE} {tl th : TO} {a : XE} {lo hi : XO} (ha : SE ta a) (hl : SP tl lo) (hh : SP th hi) : SE (tSl rSlS ta tl th) (xSlS a lo hi) := fun ρ d h S σ H al en Q q => by
  obtain ⟨x, h1, h⟩ := bind_some h
  obtain ⟨l, h2, h⟩ := bind_some h
  obtain ⟨u, h3, h⟩ := bind_some h
  refine ha ρ x h1 S σ H al en _ fun v H1 e1 rv => hl ρ l h2 S σ H1 (al.ex e1) (en.ex (hid_ex e1)) _ fun H2 e2 => hh ρ u h3 S σ H2 ((al.ex e1).ex e2) ((en.ex (hid_ex e1)).ex (hid_ex e2)) _ fun H3 e3 => ?_
  cases x with
  | str z =>
    have h : (if z.length ≤ 16000000 then some (PyData.str (L2.cutS z l u)) else none) = some d := h
    by_cases c : z.length ≤ 16000000
    · rw [if_pos c] at h
      cases h
      cases rv
      exact ⟨z, rfl, by rw [sizeLine_eq]; omega, q _ _ ((e1.trans e2).trans e3) (.str _)⟩
    · rw [if_neg c] at h; cases h
  | _ => cases h
end Uv

namespace Uv
open PySem PySem.Spec PyProof.Rows L2
open Evl (Ex)
section
variable {X : Cx}
end
variable [kk : KK]
end Uv

namespace Uv
open PySem PySem.Spec PyProof.Rows L2
open Evl (Ex)
theorem oex_cls {K : PySem.W.Frag} {C : Addr} {o : Obj} (l : K.lookup C = some o) (q : oexO C o = true) :
    ∃ nm q N bs bm sn sub ab col dd k0 k1 k2 k3 k5, K.lookup C = some (excClassObj nm q C N bs bm true sn sub ab col dd k0 k1 k2 k3 k5 "ValueError.__new__") ∧ PySem.HandSPX.refsVE bm = true := by
  unfold oexO at q
  split at q
  · rename_i dd cd sl
    split at q
    · rename_i C' bm k0 k1 k2 k3 n k5 hm hs
      simp only [Bool.and_eq_true, beq_iff_eq, Bool.not_eq_true'] at q
      obtain ⟨⟨⟨⟨rfl, rfl⟩, hdel⟩, hdct⟩, ht⟩ := q
      obtain ⟨nm, bs, mro, ns, qn, hd, sn, sub, ab, col, del⟩ := cd
      dsimp only at hm hdel hdct
      subst hm hdel hdct
      have hsl : sl = #[k0, k1, k2, k3, some (.builtin "ValueError.__new__"), k5] := by
        obtain ⟨l⟩ := sl
        simp only at hs
        rw [hs]
      subst hsl
      exact ⟨nm, qn, ns, bs, bm, sn, sub, ab, col, dd, k0, k1, k2, k3, k5, l, ht⟩
    · cases q
  · cases q
structure InitOk (P : Program) (w : World) (K : PySem.W.Frag) (mg : Str → Option Value) (base : Heap) (x : Str) (C : Addr) (fld : Str) : Prop where
  ex : ∃ (fI : Addr) (fd : FuncData), OexC K C ∧ PySem.W.findIn K (.ref C) "__init__" = some (some (.ref fI)) ∧ PySem.W.typeIn K (.ref fI) = some (.type "function") ∧ FnOk P w K mg base (L2.CX P w) 1 fI fd ["self", fld] (spI C fld) ∧ Binds K fd ["self", fld] [] ∧ mg x = some (.ref C)
theorem ps_rvI {X : Cx} {W : WX} {x : Str} {C : Addr} {fld : Str} {e : Expr} {te : TE} {p pos pos' : Pos} {j : Nat} (i : InitOk X.prog X.w X.K X.mg X.base x C fld) (hc : X.calm = true) (tk : Takes X W) (hr : Room j X.A) (hk : 2 ≤ j) (hg : Gl X x) (he : PE X e te)
    (hdb : (x == ("__debug__" : Str)) = false := by decide) (he' : starEach [e] X.env = (false, eval e X.env) :: starEach [] X.env := by rfl) (hpl : (backTo pos (starEach [] X.env)).any (·.1) = false := by rfl) : PS X (.Raise (some (.Call (.Name x p) [e] [] pos)) none pos') (tRv W C fld te) := by
  obtain ⟨fI, fd, T, iC, tI, F1, hb, hm⟩ := i.ex
  exact ps_rv hc tk T iC tI F1 hr hk hb hg hm he hdb he' hpl
theorem init_ok {P : Program} {w : World} {K : PySem.W.Frag} {mg : Str → Option Value} {base : Heap} {x qual : Str} {C f : Addr} {fld : Str} {st : Stmt} {o : Obj} {kV doc pm cdv ct oc : Value} {an od : Option Addr} {osl : Array (Option Value)}
    (hm : mg x = some (.ref C)) (lc : K.lookup C = some o) (ob : oexO C o = true) (sa : PySem.W.findIn K (.ref C) "__setattr__" = some (some (.builtin "object.__setattr__"))) (exC : PySem.W.subIn K (.ref C) (.type "BaseException") = some true) (tyC : PySem.W.typeIn K (.ref C) = some (.type "type")) (kC : PySem.W.keepIn K (.ref C) = true)
    (iC : PySem.W.findIn K (.ref C) "__init__" = some (some (.ref f))) (tI : PySem.W.typeIn K (.ref f) = some (.type "function")) (no : PySem.W.findIn K (.ref C) fld = some none)
    (lk : K.lookup f = some ⟨oc, od, .func (PySem.W.fnOf "__init__" qual (defArgs st) (defBody st) (defScope st) .none kV doc pm an cdv ct), osl⟩) (hcd : PySem.W.codeIn K cdv qual = true) (S : FnScope ["self", fld] ["self", fld] (defScope st))
    (hbi : ∀ (kV doc pm : Value) (an : Option Addr) (cdv ct : Value) (us : List Value), us.length = 2 → bindArgs (PySem.W.fnOf "__init__" qual (defArgs st) (defBody st) (defScope st) .none kV doc pm an cdv ct) ⟨us, []⟩ = pure ((["self", fld] : List Str).zip us))
    (hb : ∀ (A : Around) (outer : List PySem.Env) (s : Shared) (H : Hp) (E : XK), PSs (cxOf (L2.CX P w) P w K mg base ["self", fld] qual (defScope st) f cdv A outer s H E) (defBody st) (tOst K fld (tVar 0) (tVar 1))) : InitOk P w K mg base x C fld := by
  have T : OexC K C := ⟨oex_cls lc ob, sa, exC, tyC, kC⟩
  exact ⟨f, _, T, iC, tI, fn_init lk hcd S T no hb, .all (hbi kV doc pm an cdv ct), hm⟩
end Uv

namespace Uv
open PySem PySem.Spec PyProof.Rows L2
open Evl (Ex)
variable [kk : KK]
end Uv

namespace Uv
open PySem PySem.Spec PyProof.Rows L2
open Evl (Ex)
variable [kk : KK]
end Uv

namespace Uv
open PySem PySem.Spec PyProof.Rows L2
open Evl (Ex)
section
variable {X : Cx}
end
end Uv

namespace Uv
open PySem PySem.Spec PyProof.Rows L2
open Evl (Ex)
variable [kk : KK]
end Uv
namespace Uv
open PySem PySem.Spec PyProof.Rows L2
end Uv

namespace Uv
open PySem PySem.Spec PyProof.Rows L2
open Evl (Ex)
variable [kk : KK]
def SQ (S : Hs) (a : Addr) (qs : List Addr) : Hs := fun x => x = a ∨ x ∈ qs ∨ S x
structure Lts (S : Hs) (H0 : Hp) (a : Addr) (n : Nat) (kvs : List (Key × V)) (qs : List Addr) (sel : Int → List PD) (H : Hp) : Prop where
  dk : H a = some (.dK kvs)
  len : kvs.length ≤ n
  look : ∀ k : Int, (valV kvs (.inl k) = none ∧ sel k = []) ∨ ∃ q vs, valV kvs (.inl k) = some (.ref q) ∧ q ∈ qs ∧ H q = some (.lst vs) ∧ vs.length ≤ n ∧ RpAll (hid (SQ S a qs) H) vs (sel k)
  inj : ∀ (k k' : Int) q, valV kvs (.inl k) = some (.ref q) → valV kvs (.inl k') = some (.ref q) → k = k'
  na : a ∉ qs
  fa : H0 a = none
  fq : ∀ q ∈ qs, H0 q = none
  ex : Ex H0 H
  al : Al (SQ S a qs) H
end Uv

namespace Uv
open PySem PySem.Spec PyProof.Rows L2
open Evl (Ex)
variable [kk : KK]
end Uv

namespace Uv
open PySem PySem.Spec PyProof.Rows L2
open Evl (Ex)
variable [kk : KK]
end Uv

namespace Uv
open PySem PySem.Spec PyProof.Rows L2
open Evl (Ex)
section
variable {prog : Program} {w : World} {A : Around}
end
def rSetL (w : World) (K : PySem.W.Frag) : List V → Hp → VK → Prop := fun xs H Q => ∃ (l : Addr) (ns : List Int), xs = [.ref l] ∧ SqL K H l (ns.map V.int) ∧ ns.length ≤ 4000 ∧ ∀ a : Addr, H a = none → Q (.ref a) (upd H a (SetO w a (fun j => decide (j ∈ ns)) (setS ns).length))
variable [kk : KK]
end Uv

namespace Uv
open PySem PySem.Spec PyProof.Rows L2
open Evl (Ex)
variable [kk : KK]
end Uv

namespace Uv
open PySem PySem.Spec PyProof.Rows L2
open Evl (Ex)
section
variable {X : Cx}
end
variable [kk : KK]
end Uv

namespace Uv
open PySem PySem.Spec PyProof.Rows L2
open Evl (Ex)
section
variable {X : Cx} {pins : List (Addr × Obj)} {σ : L2.St} {H : Hp} {s : Shared} {a C : Addr} {f : Str} {y : V} {u : Value} {Q : Unit → Shared → Prop} {E : Value → Shared → Prop}
end
end Uv

namespace Uv
open PySem PySem.Spec PyProof.Rows L2
open Evl (Ex)
variable [kk : KK]
section
variable {W : WX} {cl : Nat → Value} {fld : Str}
end
end Uv

namespace Uv
open PySem PySem.Spec PyProof.Rows L2
open Evl (Ex)
variable [kk : KK]
def Agr (n : Nat) (σ σ' : L2.St) : Prop := ∀ i, i < n → σ'[i]? = σ[i]?
theorem Agr.refl {n : Nat} {σ : L2.St} : Agr n σ σ := fun _ _ => rfl
theorem Agr.trans {n : Nat} {a b c : L2.St} (h : Agr n a b) (g : Agr n b c) : Agr n a c := fun i hi => (g i hi).trans (h i hi)
theorem agr_set {n j : Nat} {σ : L2.St} {o : Option V} (h : n ≤ j) : Agr n σ (σ.set j o) := fun i hi => List.getElem?_set_ne (by omega)
def Fr (n : Nat) (ts : TS) : Prop := ∀ (N N' : L2.St → Hp → Prop) (D : Ends) σ H, (∀ σ' H', Agr n σ σ' → (N σ' H' ↔ N' σ' H')) → (ts { D with nx := N } σ H ↔ ts { D with nx := N' } σ H)
def Fg (n : Nat) (g : TG) : Prop := ∀ x σ H (Q Q' : L2.St → Hp → Prop), (∀ σ' H', Agr n σ σ' → (Q σ' H' ↔ Q' σ' H')) → (g x σ H Q ↔ g x σ H Q')
def Fgs (n : Nat) (g : TGs) : Prop := ∀ xs σ H (Q Q' : L2.St → Hp → Prop), (∀ σ' H', Agr n σ σ' → (Q σ' H' ↔ Q' σ' H')) → (g xs σ H Q ↔ g xs σ H Q')
section
variable {n : Nat} {t u : TS} {g : TG} {gs : TGs}
theorem fr_seq (ht : Fr n t) (hu : Fr n u) : Fr n (tSeq t u) := fun N N' D σ H h =>
  ht (u { D with nx := N }) (u { D with nx := N' }) D σ H fun σ' H' a => hu N N' D σ' H' fun σ'' H'' b => h σ'' H'' (a.trans b)
theorem fr_next : Fr n tNext := fun N N' D σ H h => h σ H Agr.refl
theorem fr_drop {te : TE} : Fr n (tDrop te) := fun N N' D σ H h => by
  have e : (fun (_ : V) H1 => N σ H1) = fun _ H1 => N' σ H1 := funext fun _ => funext fun H1 => propext (h σ H1 Agr.refl)
  show te σ H (fun _ H1 => N σ H1) ↔ te σ H fun _ H1 => N' σ H1
  rw [e]
theorem fr_asg {te : TE} (hg : Fg n g) : Fr n (tAsg te g) := fun N N' D σ H h => by
  have e : (fun (x : V) H1 => g x σ H1 N) = fun x H1 => g x σ H1 N' := funext fun x => funext fun H1 => propext (hg x σ H1 N N' h)
  show te σ H (fun x H1 => g x σ H1 N) ↔ te σ H fun x H1 => g x σ H1 N'
  rw [e]
theorem fr_if {c : TT} (ht : Fr n t) (hu : Fr n u) : Fr n (tIfS c t u) := fun N N' D σ H h => by
  have e : (fun b H1 => if b = true then t { D with nx := N } σ H1 else u { D with nx := N } σ H1) = fun b H1 => if b = true then t { D with nx := N' } σ H1 else u { D with nx := N' } σ H1 := funext fun b => funext fun H1 => propext (by
    cases b with
    | true => exact ht N N' D σ H1 h
    | false => exact hu N N' D σ H1 h)
  show c σ H (fun b H1 => if b = true then t { D with nx := N } σ H1 else u { D with nx := N } σ H1) ↔ c σ H fun b H1 => if b = true then t { D with nx := N' } σ H1 else u { D with nx := N' } σ H1
  rw [e]
theorem fg_name {j : Nat} (h : n ≤ j) : Fg n (gName j) := fun x σ H Q Q' q => q _ _ (agr_set h)
theorem fg_sub {ta tb : TE} {r} : Fg n (gSub ta tb r) := fun x σ H Q Q' q => by
  have e : (fun H1 => Q σ H1) = fun H1 => Q' σ H1 := funext fun H1 => propext (q σ H1 Agr.refl)
  show ta σ H (fun o H1 => tb σ H1 fun i H2 => r o i x H2 fun H3 => Q σ H3) ↔ ta σ H fun o H1 => tb σ H1 fun i H2 => r o i x H2 fun H3 => Q' σ H3
  rw [e]
theorem fgs_nil : Fgs n gNil := fun xs σ H Q Q' q => and_congr_right fun _ => q σ H Agr.refl
theorem fgs_cons (hg : Fg n g) (hs : Fgs n gs) : Fgs n (gCons g gs) := fun xs σ H Q Q' q =>
  exists_congr fun v => exists_congr fun r => and_congr_right fun _ => hg v σ H _ _ fun σ' H' a => hs r σ' H' Q Q' fun σ'' H'' b => q σ'' H'' (a.trans b)
theorem fg_tup {K : PySem.W.Frag} {m : Nat} (hs : Fgs n gs) : Fg n (gTU K m gs) := fun x σ H Q Q' q => by
  unfold gTU gTup gUnl
  have k : ∀ (P : Addr → List V → Prop), (∃ a xs, x = V.ref a ∧ P a xs ∧ xs.length = m ∧ gs xs σ H Q) ↔ ∃ a xs, x = V.ref a ∧ P a xs ∧ xs.length = m ∧ gs xs σ H Q' := fun P =>
    exists_congr fun a => exists_congr fun xs => and_congr_right fun _ => and_congr_right fun _ => and_congr_right fun _ => hs xs σ H Q Q' q
  exact or_congr (k _) (k _)
end
def OutP (n : Nat) (σ : L2.St) (F : Hs) (T : Trs) (H : Hp) (D : Ends) : Out → Prop
  | .nxt ρ => ∀ σ' T' H', Agr n σ σ' → StOk pn0 F T' H' σ' ρ → Stp F T H T' H' → D.nx σ' H'
  | .ret d ρ => ∀ v σ' T' H', Agr n σ σ' → StOk pn0 F T' H' σ' ρ → Stp F T H T' H' → Rp (hid (SF F T') H') v d → D.rt v H'
  | _ => False
def SSP (n : Nat) (ts : TS) (x : XS) : Prop := ∀ F T H σ ρ o D, StOk pn0 F T H σ ρ → x ρ = some o → OutP n σ F T H D o → ts D σ H
theorem OutP.step {n : Nat} {σ σ1 : L2.St} {F : Hs} {T T1 : Trs} {H H1 : Hp} {D : Ends} (a : Agr n σ σ1) (s : Stp F T H T1 H1) : ∀ {o : Out}, OutP n σ F T H D o → OutP n σ1 F T1 H1 D o
  | .nxt _, h => fun σ' T' H' b st s' => h σ' T' H' (a.trans b) st (s.trans s')
  | .ret _ _, h => fun v σ' T' H' b st s' => h v σ' T' H' (a.trans b) st (s.trans s')
  | .brk _, h => h.elim
  | .cnt _, h => h.elim
  | .retO _ _, h => h.elim
def NxX (x : XS) : Prop := ∀ ρ o, x ρ = some o → ∃ ρ', o = .nxt ρ'
section
variable {n : Nat} {t u : TS} {x y : XS}
theorem nx_asg {g : XG} {w : XW} : NxX (sAsg g w) := fun ρ o h => by
  obtain ⟨a, _, h⟩ := bind_some h
  obtain ⟨b, _, h⟩ := bind_some h
  cases h
  exact ⟨_, rfl⟩
theorem nx_seq (hx : NxX x) (hy : NxX y) : NxX (sSeq x y) := fun ρ o h => by
  obtain ⟨a, h1, h⟩ := bind_some h
  obtain ⟨ρ', rfl⟩ := hx ρ a h1
  exact hy ρ' o h
theorem nx_if {c : XWT} (hx : NxX x) (hy : NxX y) : NxX (sIf c x y) := fun ρ o h => by
  obtain ⟨⟨k, ρ'⟩, _, h⟩ := bind_some h
  cases k with
  | true => exact hx ρ' o h
  | false => exact hy ρ' o h
theorem nx_next : NxX sNext := fun ρ o h => by cases h; exact ⟨_, rfl⟩
theorem nx_own {i : Nat} {w : XWO} : NxX (sOwn i w) := fun ρ o h => by
  obtain ⟨a, _, h⟩ := bind_some h
  split at h
  · cases h; exact ⟨_, rfl⟩
  · cases h
theorem nx_app {i : Nat} {a : XW} : NxX (sApp i a) := fun ρ o h => by
  obtain ⟨_, _, h⟩ := bind_some h
  obtain ⟨_, _, h⟩ := bind_some h
  obtain ⟨_, _, h⟩ := bind_some h
  split at h
  · cases h; exact ⟨_, rfl⟩
  · cases h
theorem nx_ext {i : Nat} {a : XW} : NxX (sExt i a) := fun ρ o h => by
  obtain ⟨_, _, h⟩ := bind_some h
  obtain ⟨_, _, h⟩ := bind_some h
  obtain ⟨_, _, h⟩ := bind_some h
  obtain ⟨_, _, h⟩ := bind_some h
  split at h
  · cases h; exact ⟨_, rfl⟩
  · cases h
theorem nx_set {i : Nat} {k : XE} {a : XW} : NxX (sSet i k a) := fun ρ o h => by
  obtain ⟨_, _, h⟩ := bind_some h
  obtain ⟨_, _, h⟩ := bind_some h
  obtain ⟨_, _, h⟩ := bind_some h
  obtain ⟨_, _, h⟩ := bind_some h
  obtain ⟨_, _, h⟩ := bind_some h
  cases h
  exact ⟨_, rfl⟩
theorem nx_fz {i : Nat} (hx : NxX x) : NxX (sFz i x) := fun ρ o h => hx _ o h
theorem ssp_st (hs : SS t x) (hf : Fr n t) (hn : NxX x) : SSP n t x := fun F T H σ ρ o D st e q => by
  obtain ⟨ρ', rfl⟩ := hn ρ o e
  have h := hs pn0 F T H σ ρ _ { D with nx := fun σ' H' => Agr n σ σ' → D.nx σ' H' } st e fun σ' T' H' st' s' a => q σ' T' H' a st' s'
  exact (hf (fun σ' H' => Agr n σ σ' → D.nx σ' H') D.nx D σ H fun σ' H' a => ⟨fun h => h a, fun h _ => h⟩).mp h
theorem ssp_seq (hx : SSP n t x) (hy : SSP n u y) : SSP n (tSeq t u) (sSeq x y) := fun F T H σ ρ o D st e q => by
  obtain ⟨o1, h1, e⟩ := bind_some e
  cases o1 with
  | nxt ρ1 => exact hx F T H σ ρ _ { D with nx := u D } st h1 fun σ2 T2 H2 a st2 s2 => hy F T2 H2 σ2 ρ1 o D st2 e (q.step a s2)
  | ret d ρ1 => cases e; exact hx F T H σ ρ _ { D with nx := u D } st h1 q
  | retO d ρ1 => cases e; exact q.elim
  | brk ρ1 => cases e; exact q.elim
  | cnt ρ1 => cases e; exact q.elim
theorem ssp_ret {te : TE} {w : XW} (h : SW te w) : SSP n (tRet te) (sRet w) := fun F T H σ ρ o D st e q => by
  obtain ⟨⟨d, ρ1⟩, h1, e⟩ := bind_some e
  cases e
  exact h pn0 F T H σ ρ d ρ1 st h1 _ fun v T' H' st' s' rv => q v σ T' H' Agr.refl st' s' rv
theorem ssp_fz {i : Nat} (h : SSP n t y) : SSP n t (sFz i y) := fun F T H σ ρ o D st e q => by
  obtain ⟨T', st', s'⟩ := st.fz1 i
  exact h F T' H σ _ o D st' e (q.step Agr.refl s')
theorem ssp_if {ct : TT} {c : XWT} (hc : SWT ct c) (hx : SSP n t x) (hy : SSP n u y) : SSP n (tIfS ct t u) (sIf c x y) := fun F T H σ ρ o D st e q => by
  obtain ⟨⟨k, ρ1⟩, h1, e⟩ := bind_some e
  refine hc pn0 F T H σ ρ k ρ1 st h1 _ fun T1 H1 st1 s1 => ?_
  cases k with
  | true => exact hx F T1 H1 σ ρ1 o D st1 e (q.step Agr.refl s1)
  | false => exact hy F T1 H1 σ ρ1 o D st1 e (q.step Agr.refl s1)
end
end Uv

namespace Uv
open PySem PySem.Spec PyProof.Rows L2
open Evl (Ex)
section
variable {prog : Program} {w : World} {A : Around} {E : Value → Shared → Prop} {s : Shared}
end
end Uv

namespace Uv
open PySem PySem.Spec PyProof.Rows L2
open Evl (Ex)
variable [kk : KK]
abbrev exzD (n : Nat) (ds : List PD) : PD := .dict [(.bool false, .int (n : Int)), (.bool false, .list ds)]
def isExz : PD → Option (Nat × List PD)
  | .dict [(.bool false, .int i), (.bool false, .list ds)] => some (i.toNat, ds)
  | _ => none
@[simp] theorem isExz_exzD (n : Nat) (ds : List PD) : isExz (exzD n ds) = some (n, ds) := rfl
theorem rp_noexz {H : Hp} {v : V} {d : PD} (r : Rp H v d) : isExz d = none := by
  cases r with
  | dct h l e ra =>
    rename_i ks xs ds ps
    subst e
    cases ks with
    | nil => rfl
    | cons k ks => cases ds <;> rfl
  | _ => rfl
structure ExcAt (H : Hp) (S : Hs) (n : Nat) (ds : List PD) (C : Addr) (od : Option Addr) : Prop where
  cl : kk.cl n = some C
  at_ : ∃ xs, DcAt (hid S H) od (exFld n) xs ∧ RpAll (hid S H) xs ds
theorem ExcAt.ex {H H' : Hp} {S : Hs} {n : Nat} {ds : List PD} {C : Addr} {od : Option Addr} (e : Ex H H') (x : ExcAt H S n ds C od) : ExcAt H' S n ds C od := ⟨x.cl, let ⟨xs, h1, h2⟩ := x.at_; ⟨xs, h1.ex (hid_ex e), h2.ex (hid_ex e)⟩⟩
theorem ExcAt.sub {H : Hp} {S S' : Hs} {n : Nat} {ds : List PD} {C : Addr} {od : Option Addr} (h : ∀ x, S' x → S x) (x : ExcAt H S n ds C od) : ExcAt H S' n ds C od := ⟨x.cl, let ⟨xs, h1, h2⟩ := x.at_; ⟨xs, h1.ex (hid_sub h), h2.ex (hid_sub h)⟩⟩
def OutZ (W : WX) (pn : Pn) (F : Hs) (T : Trs) (H : Hp) (D : Ends) (o : Out) : Prop :=
  (∀ n ds ρ d, o = .ret d ρ → isExz d = some (n, ds) → ∀ C od σ T' H', StOk pn F T' H' σ ρ → Stp F T H T' H' → ExcAt H' (SF F T') n ds C od → W (.ref C) od σ H') ∧ ((∀ d ρ, o = .ret d ρ → isExz d = none) → OutOk pn F T H D o)
def SSZ (W : WX) (ts : TS) (x : XS) : Prop := ∀ pn F T H σ ρ o D, StOk pn F T H σ ρ → x ρ = some o → OutZ W pn F T H D o → ts D σ H
section
variable {W : WX} {t u : TS} {x y : XS} {ct : TT} {c : XWT}
theorem ssz_of (h : SS t x) : SSZ W t x := fun pn F T H σ ρ o D st e q => h pn F T H σ ρ o D st e <| by
  by_cases z : ∀ d ρ, o = .ret d ρ → isExz d = none
  · exact q.2 z
  · cases o with
    | ret d ρ' =>
      intro v σ T' H' st s rv
      exact absurd (fun d2 ρ2 e2 => by cases e2; exact rp_noexz rv) z
    | _ => exact absurd (fun _ _ e => nomatch e) z
theorem OutZ.step {pn : Pn} {F : Hs} {T T1 : Trs} {H H1 : Hp} {D : Ends} (s : Stp F T H T1 H1) {o : Out} (h : OutZ W pn F T H D o) : OutZ W pn F T1 H1 D o :=
  ⟨fun n x ρ d e i C od σ T' H' st s' => h.1 n x ρ d e i C od σ T' H' st (s.trans s'), fun z => (h.2 z).step s⟩
theorem ssz_seq (hx : SSZ W t x) (hy : SSZ W u y) : SSZ W (tSeq t u) (sSeq x y) := fun pn F T H σ ρ o D st e q => by
  obtain ⟨o1, h1, e⟩ := bind_some e
  cases o1 with
  | nxt ρ1 => exact hx pn F T H σ ρ _ { D with nx := u D } st h1 ⟨fun _ _ _ _ z => (nomatch z), fun _ σ2 T2 H2 st2 s2 => hy pn F T2 H2 σ2 ρ1 o D st2 e (q.step s2)⟩
  | ret d ρ1 => cases e; exact hx pn F T H σ ρ _ { D with nx := u D } st h1 ⟨q.1, fun z => q.2 z⟩
  | retO d ρ1 => cases e; exact hx pn F T H σ ρ _ { D with nx := u D } st h1 ⟨q.1, fun z => q.2 z⟩
  | brk ρ1 => cases e; exact hx pn F T H σ ρ _ { D with nx := u D } st h1 ⟨q.1, fun z => q.2 z⟩
  | cnt ρ1 => cases e; exact hx pn F T H σ ρ _ { D with nx := u D } st h1 ⟨q.1, fun z => q.2 z⟩
theorem ssz_if (hc : SWT ct c) (hx : SSZ W t x) (hy : SSZ W u y) : SSZ W (tIfS ct t u) (sIf c x y) := fun pn F T H σ ρ o D st e q => by
  obtain ⟨⟨k, ρ1⟩, h1, e⟩ := bind_some e
  refine hc pn F T H σ ρ k ρ1 st h1 _ fun T1 H1 st1 s1 => ?_
  cases k with
  | true => exact hx pn F T1 H1 σ ρ1 o D st1 e (q.step s1)
  | false => exact hy pn F T1 H1 σ ρ1 o D st1 e (q.step s1)
theorem ssz_fz {i : Nat} (h : SSZ W t y) : SSZ W t (sFz i y) := fun pn F T H σ ρ o D st e q => by
  obtain ⟨T', st', s'⟩ := st.fz1 i
  exact h pn F T' H σ _ o D st' e (q.step s')
def sRz (n : Nat) (as : XA) : XS := fun ρ => (as (mk ρ)).bind fun ds => some (.ret (exzD n ds) ρ)
theorem ssz_rz1 {n : Nat} {C : Addr} {fld : Str} {te : TE} {x : XE} (hx : SE te x) (hc : kk.cl n = some C) (hf : exFld n = [fld]) : SSZ W (tRv W C fld te) (sRz n (xCons x xNil)) := fun pn F T H σ ρ o D st e q => by
  obtain ⟨ds, h0, e⟩ := bind_some e
  obtain ⟨d, h1, h0⟩ := bind_some h0
  cases h0
  cases e
  refine hx _ _ h1 (SF F T) σ H st.als st.mkd _ fun v H1 e1 rv => ?_
  refine ⟨by show 1 ≤ 1000; omega, fun a ha => ⟨a, v, rfl, upd_same, fun dx hd hne => ⟨rfl, dx, [(fld, v)], upd_same, ?_, ?_, ?_⟩⟩⟩
  · rw [upd_ne (Ne.symm hne.symm)]
    exact upd_same
  · rw [upd_ne hne] at hd
    exact hd
  · have hd' : H1 dx = none := by rw [upd_ne hne] at hd; exact hd
    have e2 := ex_let (u := exo a C none) (u' := exd dx [(fld, v)]) (o := exo a C (some dx)) (o' := .xd [(fld, v)]) ha hd'
    have st1 := st.ex e1
    exact q.1 n [d] ρ _ rfl rfl C (some dx) σ T _ (st1.ex e2) ((Stp.ex st.al e1).trans (Stp.ex st1.al e2)) ⟨hc, [v], by rw [hf]; exact ⟨dx, rfl, (by rw [hid_out (fun z => (st1.als _ z) hd')]; exact upd_same), rfl⟩, .cons (rv.ex (hid_ex e2)) .nil⟩
end
def spZ (f : List PD → Option PD) : Sp := fun vs H Q E => ∃ S ds d, Al S H ∧ RpAll (hid S H) vs ds ∧ f ds = some d ∧ (∀ n es, isExz d = some (n, es) → ∀ C od H2, Ex H H2 → ExcAt H2 S n es C od → E (.ref C) od H2) ∧ (isExz d = none → ∀ v H2, Ex H H2 → Rp (hid S H2) v d → Q v H2)
theorem len_Z {n k : Nat} {X : XS} {vs : List V} {H : Hp} {Q : VK} {E : XK} (h : spZ (runP n k X) vs H Q E) : vs.length = n := by
  obtain ⟨S, ds, d, _, ra, h, _⟩ := h
  unfold runP at h
  by_cases hn : ds.length = n
  · rw [ra.length]; exact hn
  · rw [if_neg hn] at h; cases h
theorem go_Z {t : TS} {X : XS} {N : List Str} {vs : List V} {H : Hp} {Q : VK} {E : XK} {n k : Nat} (hX : SSZ (fun cls d _ H => E cls d H) t X) (hN : N.length = n + k) (hs : spZ (runP n k X) vs H Q E) : t { nx := fun _ H' => Q .non H', rt := Q } (L2.start N vs) H := by
  obtain ⟨S, ds, d, al, ra, h, qx, q⟩ := hs
  unfold runP at h
  by_cases hn : ds.length = n
  · rw [if_pos hn] at h
    obtain ⟨o, h1, h⟩ := bind_some h
    have ex : ∀ {T' : Trs} {H' : Hp}, Stp S (fun _ => []) H T' H' → Ex H H' := fun {T' H'} s x o hx => by
      by_cases c : S x
      · rw [s.fr x c]; exact hx
      · exact hid_le _ _ (s.vis x o (by rw [hid_out (fun z => z.elim c fun ⟨_, z⟩ => nomatch z)]; exact hx))
    refine hX pn0 S _ H _ _ o _ (st0 al ra hn hN) h1 ⟨fun n x ρ d' e i C od σ T' H' st s ea => ?_, fun z => ?_⟩
    · subst e
      cases h
      exact qx n x i C od H' (ex s) (ea.sub fun x hx => .inl hx)
    · cases o with
      | ret d' ρ' => cases h; exact fun v σ T' H' st' s' rv => q (z _ _ rfl) v H' (ex s') (rv.ex (hid_sub fun x hx => .inl hx))
      | nxt ρ' => cases h; exact fun σ T' H' st' s' => q rfl .non H' (ex s') .non
      | retO _ _ => cases h
      | brk _ => cases h
      | cnt _ => cases h
  · rw [if_neg hn] at h; cases h
def SEZ (W : WX) (te : TE) (x : XE) : Prop := ∀ ρ d, x ρ = some d → ∀ S σ H, Al S H → En (hid S H) σ ρ → ∀ Q : VK, (∀ n es, isExz d = some (n, es) → ∀ C od H2, Ex H H2 → ExcAt H2 S n es C od → W (.ref C) od σ H2) → (isExz d = none → ∀ v H2, Ex H H2 → Rp (hid S H2) v d → Q v H2) → te σ H Q
abbrev XWZ := Env → Option (PD × Env)
def SWZ (W : WX) (te : TE) (x : XWZ) : Prop := ∀ pn F T H σ ρ d ρ', StOk pn F T H σ ρ → x ρ = some (d, ρ') → ∀ Q : VK, (∀ n es, isExz d = some (n, es) → ∀ C od T' H', StOk pn F T' H' σ ρ' → Stp F T H T' H' → ExcAt H' (SF F T') n es C od → W (.ref C) od σ H') → (isExz d = none → ∀ v T' H', StOk pn F T' H' σ ρ' → Stp F T H T' H' → Rp (hid (SF F T') H') v d → Q v H') → te σ H Q
section
variable {W : WX} {te : TE} {ts : TA} {x : XE} {as : XA} {f : List PD → Option PD}
theorem sez_call (hs : SA ts as) : SEZ W (tCallS (spZ f) (WE W) ts) (xCB f as) := fun ρ d h S σ H al en Q qx q => by
  obtain ⟨ds, h1, h2⟩ := bind_some h
  exact hs ρ ds h1 S σ H al en _ fun vs H1 e1 rv => ⟨S, ds, d, al.ex e1, rv, h2, fun n x i C od H2 e2 ea => qx n x i C od H2 (e1.trans e2) ea, fun i v H2 e2 r2 => q i v H2 (e1.trans e2) r2⟩
def wZM (x : XE) : XWZ := fun ρ => (x (mk ρ)).bind fun d => some (d, ρ)
theorem swz_M (h : SEZ W te x) : SWZ W te (wZM x) := fun pn F T H σ ρ d ρ' st e Q qx q => by
  obtain ⟨d1, h1, e⟩ := bind_some e
  cases e
  exact h _ _ h1 (SF F T) σ H st.als st.mkd Q (fun n es i C od H2 e2 ea => qx n es i C od T H2 (st.ex e2) (Stp.ex st.al e2) ea) fun i v H2 e2 rv => q i v T H2 (st.ex e2) (Stp.ex st.al e2) rv
end
section
variable {W : WX} {te : TE} {x : XWZ}
def sDropZ (x : XWZ) : XS := fun ρ => (x ρ).bind fun y => match isExz y.1 with
  | none => some (.nxt y.2)
  | some _ => some (.ret y.1 y.2)
theorem ssz_drop (hx : SWZ W te x) : SSZ W (tDrop te) (sDropZ x) := fun pn F T H σ ρ o D st e q => by
  obtain ⟨⟨d, ρ1⟩, h1, e⟩ := bind_some e
  cases i : isExz d with
  | none =>
    have e : (match isExz d with | none => some (Out.nxt ρ1) | some _ => some (Out.ret d ρ1)) = some o := e
    rw [i] at e
    cases e
    exact hx pn F T H σ ρ d ρ1 st h1 _ (fun n es i2 => by rw [i] at i2; cases i2) fun _ v T' H' st' s' rv => q.2 (fun _ _ z => nomatch z) σ T' H' st' s'
  | some p =>
    have e : (match isExz d with | none => some (Out.nxt ρ1) | some _ => some (Out.ret d ρ1)) = some o := e
    rw [i] at e
    cases e
    exact hx pn F T H σ ρ d ρ1 st h1 _ (fun n es i2 C od T' H' st' s' ea => q.1 n es ρ1 d rfl i2 C od σ T' H' st' s' ea) fun i2 => by rw [i] at i2; cases i2
def sRetZ (x : XWZ) : XS := fun ρ => (x ρ).bind fun y => some (.ret y.1 y.2)
theorem ssz_ret (hx : SWZ W te x) : SSZ W (tRet te) (sRetZ x) := fun pn F T H σ ρ o D st e q => by
  obtain ⟨⟨d, ρ1⟩, h1, e⟩ := bind_some e
  cases e
  refine hx pn F T H σ ρ d ρ1 st h1 _ (fun n es i C od T' H' st' s' ea => q.1 n es ρ1 d rfl i C od σ T' H' st' s' ea) fun i v T' H' st' s' rv => ?_
  exact q.2 (fun d2 ρ2 e2 => by cases e2; exact i) v σ T' H' st' s' rv
def sAsgZ (i : Nat) (x : XWZ) : XS := fun ρ => (x ρ).bind fun y => match isExz y.1 with
  | none => some (.nxt (y.2.set i (.dat y.1)))
  | some _ => some (.ret y.1 y.2)
theorem ssz_asg {i : Nat} (hi : i ≠ 0) (hx : SWZ W te x) : SSZ W (tAsg te (gName i)) (sAsgZ i x) := fun pn F T H σ ρ o D st e q => by
  obtain ⟨⟨d, ρ1⟩, h1, e⟩ := bind_some e
  cases k : isExz d with
  | none =>
    have e : (match isExz d with | none => some (Out.nxt (ρ1.set i (.dat d))) | some _ => some (Out.ret d ρ1)) = some o := e
    rw [k] at e
    cases e
    refine hx pn F T H σ ρ d ρ1 st h1 _ (fun n es i2 => by rw [k] at i2; cases i2) fun _ v T' H' st' s' rv => ?_
    obtain ⟨st2, s2⟩ := st'.set hi rv
    exact q.2 (fun _ _ z => nomatch z) _ _ _ st2 (s'.trans s2)
  | some p =>
    have e : (match isExz d with | none => some (Out.nxt (ρ1.set i (.dat d))) | some _ => some (Out.ret d ρ1)) = some o := e
    rw [k] at e
    cases e
    exact hx pn F T H σ ρ d ρ1 st h1 _ (fun n es i2 C od T' H' st' s' ea => q.1 n es ρ1 d rfl i2 C od σ T' H' st' s' ea) fun i2 => by rw [k] at i2; cases i2
end
end Uv

namespace Uv
open PySem PySem.Spec PyProof.Rows L2
open Evl (Ex)
section
variable {P : Program} {w : World} {K : PySem.W.Frag} {mg : Str → Option Value} {base : Heap}
end
section
variable {X : Cx} {j k : Nat} {C : Addr} {m : Str} {sp : Sp} {W : WX} {o e : Expr} {es : List Expr} {ta : TE} {t : TA} {apos pos : Pos}
end
end Uv

namespace Uv
open PySem PySem.Spec PyProof.Rows L2
open Evl (Ex)
variable [kk : KK]
section
variable {m : Str} {te : TE} {ts : TA} {x : XE} {as : XA} {f : List PD → Option PD} {W : WX}
end
def isHeld : PD → Option (Nat × List PD)
  | .dict [(.none, .int i), (.none, .list ds)] => some (i.toNat, ds)
  | _ => none
@[simp] theorem isHeld_heldD (n : Nat) (ds : List PD) : isHeld (heldD n ds) = some (n, ds) := rfl
theorem rp_held {H : Hp} {v : V} {d : PD} {n : Nat} {ds : List PD} (r : Rp H v d) (e : isHeld d = some (n, ds)) : ∃ (a C : Addr) (od : Option Addr) (xs : List V), v = .ref a ∧ kk.cl n = some C ∧ H a = some (ExH C od a) ∧ DcAt H od (exFld n) xs ∧ RpAll H xs ds := by
  cases r with
  | exo h1 h2 h3 h4 => cases e; exact ⟨_, _, _, _, rfl, h1, h2, h3, h4⟩
  | @dct a ks xs es ps h1 h2 h3 h4 =>
    exfalso
    subst h3
    cases ks with
    | nil => cases e
    | cons k ks => cases es <;> cases e
  | _ => cases e
def rIsX (K : PySem.W.Frag) : List V → Hp → VK → Prop := fun xs H Q => ∃ (a C : Addr) (od : Option Addr) (c : V) (cv : Value) (b : Bool), xs = [.ref a, c] ∧ H a = some (ExH C od a) ∧ (∀ dd, od = some dd → ∃ fs, H dd = some (.xd fs)) ∧ ExcC K C ∧ (∀ u, RelV c u → u = cv) ∧ PySem.W.kitOne K (.ref C) cv = some b ∧ Q (.bl b) H
theorem exh_at {X : Cx} {a C : Addr} {od : Option Addr} {pins : List (Addr × Obj)} {σ : L2.St} {H : Hp} {s : Shared} (I : Inv X pins σ H s) (ha : H a = some (ExH C od a)) (hd : ∀ dd, od = some dd → ∃ fs, H dd = some (.xd fs)) : ∃ ox oo, PySem.W.InstAt s.heap a ox C oo := by
  obtain ⟨⟨oe, vs, he, hz, hv⟩, _, _⟩ := (show ObjOk X.prog X.w H s.heap a (ExH C od a) from I.hok a _ ha)
  cases od with
  | none => exact ⟨oe, none, he, hz.1, by unfold PySem.W.notCls; rw [hv] <;> rfl, by rw [hz.2]; trivial⟩
  | some dd =>
    obtain ⟨fs, hf⟩ := hd dd rfl
    obtain ⟨mA, hns, hr⟩ := (show ObjOk X.prog X.w H s.heap dd (.xd fs) from I.hok dd _ hf)
    obtain ⟨o2, ho, hl⟩ := lookIn_ns hns
    exact ⟨oe, some o2, he, hz.1, by unfold PySem.W.notCls; rw [hv] <;> rfl, by rw [hz.2]; exact ho⟩
theorem call_isX {X : Cx} : CallR X (.builtin "isinstance") (rIsX X.K) := by
  intro pins s σ H xs us Q I r h
  obtain ⟨a, C, od, c, cv, b, rfl, ha, hd, hC, hcv, e, q⟩ := h
  cases r with
  | cons rx rr =>
    cases rr with
    | cons rt rr =>
      cases rr
      cases rx
      have ec := hcv _ rt
      subst ec
      obtain ⟨ox, oo, J⟩ := exh_at I ha hd
      exact PySem.W.kia_one (kitx_exD hC) I.kIn J e (fun z => nomatch z) fun tk => ⟨.bl b, H, I.kept (t' := tk) fun _ _ z => z, rfl, q⟩
theorem dc_xd {H : Hp} {od : Option Addr} {fs : List Str} {xs : List V} (h : DcAt H od fs xs) : ∀ dd, od = some dd → ∃ gs, H dd = some (.xd gs) := fun dd e => by
  cases fs with
  | nil => rw [h.1] at e; cases e
  | cons f fs =>
    obtain ⟨d2, h1, h2, _⟩ := h
    rw [h1] at e
    cases e
    exact ⟨_, h2⟩
def isX (tab : Nat → Option Bool) (d : PD) : Option PD := (isHeld d).bind fun p => (tab p.1).bind fun b => some (.bool b)
theorem se_isX {tab : Nat → Option Bool} {c : V} {cv : Value} {te : TE} {x : XE} (hE : ∀ n C, kk.cl n = some C → ExcC K C) (hc : ∀ u, RelV c u → u = cv) (ht : ∀ n C b, kk.cl n = some C → tab n = some b → PySem.W.kitOne K (.ref C) cv = some b) (hx : SE te x) :
    SE (tCB (rIsX K) (tCons te (tCons (tC c) tNil))) (xUn (isX tab) x) := fun ρ d e S σ H al en Q q => by
  obtain ⟨d0, h1, e⟩ := bind_some e
  obtain ⟨⟨n, es⟩, h2, e⟩ := bind_some e
  obtain ⟨b, h3, e⟩ := bind_some e
  cases e
  refine hx ρ _ h1 S σ H al en _ fun v H1 e1 rv => ?_
  obtain ⟨a, C, od, xs, rfl, k1, k2, k3, k4⟩ := rp_held rv h2
  exact ⟨a, C, od, c, cv, b, rfl, hid_le _ _ k2, fun dd ed => (let ⟨gs, g⟩ := dc_xd k3 dd ed; ⟨gs, hid_le _ _ g⟩), hE n C k1, hc, ht n C b k1 h3, q _ H1 e1 (.bl b)⟩
def tXat (K : PySem.W.Frag) (f : Str) (te : TE) : TE := fun σ H Q => te σ H fun x H1 => ∃ (a C dd : Addr) (fs : List (Str × V)) (v : V), x = .ref a ∧ H1 a = some (ExH C (some dd) a) ∧ XfC K C ∧ PySem.W.findIn K (.ref C) f = some none ∧ H1 dd = some (.xd fs) ∧ fs.lookup f = some v ∧ Q v H1
theorem pe_xat {X : Cx} {e : Expr} {te : TE} {pos : Pos} {n : Str} (he : PE X e te) (hb : attributeBase e n X.env (eval e X.env) = eval e X.env := by rfl) : PE X (.Attribute e n pos) (tXat X.K n te) := by
  refine ⟨fun pins s σ H Q I h => attr_of hb (thn (he.run pins s σ H _ I h) fun u s1 hh => ?_)⟩
  obtain ⟨x, H1, I1, rx, a, C, dd, fs, v, ex, ha, T, hno, hd, l, q⟩ := hh
  subst ex
  obtain rfl : u = Value.ref a := rx
  obtain ⟨⟨oe, vs, ho, hz, hv⟩, _, _⟩ := (show ObjOk X.prog X.w H1 s1.heap a (ExH C (some dd) a) from I1.hok a _ ha)
  obtain ⟨mA, hns, hr⟩ := (show ObjOk X.prog X.w H1 s1.heap dd (.xd fs) from I1.hok dd _ hd)
  obtain ⟨o2, ho2, hl⟩ := lookIn_ns hns
  obtain ⟨z, hu, ru⟩ := RelO.some_of (v := v) (o := mA n) (by rw [← l]; exact hr n)
  exact HandSPX.exc_get I1.kIn (⟨ho, hz.1, by unfold PySem.W.notCls; rw [hv] <;> rfl, by rw [hz.2]; exact ho2⟩ : PySem.W.InstAt s1.heap a oe C (some o2)) T.ga T.gg T.exC (PySem.W.findObj_own T.hdC hno rfl (by rw [hl, hu])) (handed_of ru) ⟨v, H1, I1.tok _, ru, q⟩
def xatD (f : Str) (d : PD) : Option PD := (isHeld d).bind fun p => ((exFld p.1).zip p.2).lookup f
theorem zip_rp {H : Hp} {f : Str} {d : PD} : ∀ {fs : List Str} {xs : List V} {ds : List PD}, RpAll H xs ds → (fs.zip ds).lookup f = some d → ∃ v, (fs.zip xs).lookup f = some v ∧ Rp H v d
  | [], _, _, _, h => by cases h
  | _ :: _, [], _, .nil, h => by cases h
  | g :: fs, _, _, .cons r ra, h => by
    simp only [List.zip_cons_cons, List.lookup] at h ⊢
    split at h
    · cases h; exact ⟨_, rfl, r⟩
    · exact zip_rp ra h
theorem se_xat {f : Str} {te : TE} {x : XE} (hF : ∀ n C, kk.cl n = some C → f ∈ exFld n → XfC K C ∧ PySem.W.findIn K (.ref C) f = some none) (hx : SE te x) : SE (tXat K f te) (xUn (xatD f) x) := fun ρ d e S σ H al en Q q => by
  obtain ⟨d0, h1, e⟩ := bind_some e
  obtain ⟨⟨n, es⟩, h2, e⟩ := bind_some e
  refine hx ρ _ h1 S σ H al en _ fun v H1 e1 rv => ?_
  obtain ⟨a, C, od, xs, rfl, k1, k2, k3, k4⟩ := rp_held rv h2
  obtain ⟨z, l1, rz⟩ := zip_rp k4 e
  have hm : f ∈ exFld n := by
    have := List.lookup_eq_some_iff.mp e
    obtain ⟨l1, l2, e2, _⟩ := this
    have : (f, d) ∈ (exFld n).zip es := by rw [e2]; simp
    exact (List.of_mem_zip this).1
  cases hf : exFld n with
  | nil => rw [hf] at hm; cases hm
  | cons g gs =>
    rw [hf] at k3 l1
    obtain ⟨dd, rfl, g2, _⟩ := k3
    obtain ⟨t1, t2⟩ := hF n C k1 hm
    exact ⟨a, C, dd, _, z, rfl, hid_le _ _ k2, t1, t2, hid_le _ _ g2, l1, q z H1 e1 rz⟩
end Uv

namespace Uv
open PySem PySem.Spec PyProof.Rows L2
open Evl (Ex)
abbrev ExV (cls : Value) (d : Option Addr) (a : Addr) : HO := .ext fun h => ∃ (oe : Obj) (vs : Array Value), h.get? a = some oe ∧ Zc cls d oe ∧ oe.data = .fields vs
section
variable {X : Cx} {pins : List (Addr × Obj)} {σ : L2.St} {H : Hp} {s sI : Shared} {a : Addr} {B : Heap} {cls : Value} {d : Option Addr}
theorem Inv.track {o : HO} (I : Inv X pins σ H s) (na : H a = none) (n0 : X.s_0.heap.get? a = none) (nL : a ≠ X.env.locals) (nC : ∀ x c, X.env.cells.lookup x = some c → c ≠ a) (nP : ∀ p ∈ X.pn ++ pins, p.1 ≠ a) (ok : ObjOk X.prog X.w (upd H a o) s.heap a o) : Inv X pins σ (upd H a o) s := by
  have n0' : ∀ b u, X.s_0.heap.get? b = some u → b ≠ a := fun b u e z => by rw [z, n0] at e; cases e
  refine ⟨I.ok, I.os, I.bare, ⟨I.base.keep, I.base.slot, fun b u e n hx => ?_, I.base.there, fun b xs e => ?_, fun b u xs e => ?_, fun b ps e => ?_⟩, I.loc, I.cell, ?_, fun x c e => ?_, fun p hp => ?_, fun b u e => ?_, I.len⟩
  · rw [upd_ne (n0' b u e)]; exact I.base.free b u e n hx
  · have q := I.base.tups b xs e
    rw [upd_ne (ne_of_none q na)]; exact q
  · have q := I.base.frzs b u xs e
    rw [upd_ne (ne_of_none q na)]; exact q
  · obtain ⟨m, q⟩ := I.base.tbls b ps e
    exact ⟨m, by rw [upd_ne (ne_of_none q na)]; exact q⟩
  · rw [upd_ne nL.symm]; exact I.free
  · rw [upd_ne (nC x c e)]; exact I.freeC x c e
  · obtain ⟨e, n, r⟩ := I.pin p hp
    exact ⟨e, by rw [upd_ne (nP p hp)]; exact n, r⟩
  · by_cases hb : b = a
    · subst hb
      rw [upd_same] at e
      cases e
      exact ok
    · rw [upd_ne hb] at e
      exact (I.hok b u e).stay (fun c v _ q => q) (fun c q => by rw [upd_ne (ne_of_none q na)]; exact q) fun c xs q => by rw [upd_ne (ne_of_none q na)]; exact q
structure AirX (X : Cx) (pins : List (Addr × Obj)) (σ : L2.St) (H : Hp) (a : Addr) (B : Heap) (sI : Shared) (cls : Value) (d : Option Addr) (s : Shared) : Prop where
  inv : Inv X pins σ H sI
  nb : ∀ b o, sI.heap.get? b = some o → b ∉ frs X.stack → B.get? b = some o
  up : sI.heap.UpToSlots s.heap
  fl : HandSPX.FlyingZ B X.stack a (Zc cls d) s.heap
  na : H a = none
  os : s.os = sI.os
  ag : AllBare s.gens
theorem AirX.landed (x : AirX X pins σ H a B sI cls d s) : Inv X pins σ H s := x.inv.landed x.nb x.fl.1 x.up x.os x.ag
theorem AirX.notFr (x : AirX X pins σ H a B sI cls d s) : a ∉ frs X.stack := fun hm => by
  obtain ⟨oe, vs, he, _, hd⟩ := x.fl.there
  obtain ⟨_, o', e', hnf⟩ := x.fl.2.2.1.mem hm
  rw [he] at e'
  cases e'
  exact hnf _ hd
theorem AirX.new (x : AirX X pins σ H a B sI cls d s) : sI.heap.get? a = none := by
  cases e : sI.heap.get? a with
  | none => rfl
  | some o =>
    have z := x.nb a o e x.notFr
    rw [x.fl.2.1] at z
    cases z
theorem AirX.nL (x : AirX X pins σ H a B sI cls d s) : a ≠ X.env.locals := fun z => by
  obtain ⟨m, ⟨o, es, ep, ho, _⟩, _⟩ := x.inv.loc
  rw [← z, x.new] at ho
  cases ho
theorem AirX.held (x : AirX X pins σ H a B sI cls d s) (hx : X.ex = []) : Inv X pins σ (upd H a (ExV cls d a)) s := by
  obtain ⟨oe, vs, he, hz, hd⟩ := x.fl.there
  refine Inv.track x.landed x.na ?_ x.nL (fun n c e z => ?_) (fun p hp z => ?_) ⟨⟨oe, vs, he, hz, hd⟩, ⟨oe, he⟩, fun _ _ ⟨o, v, q, r⟩ k => ⟨o, v, k o q, r⟩⟩
  · cases e : X.s_0.heap.get? a with
    | none => rfl
    | some o =>
      obtain ⟨o', q⟩ := x.inv.base.there a o e (by rw [hx]; exact fun z => nomatch z)
      rw [x.new] at q
      cases q
  · obtain ⟨w, o, ho, _⟩ := x.inv.cell n c e
    rw [z, x.new] at ho
    cases ho
  · have q := (x.inv.pin p hp).1
    rw [z, x.new] at q
    cases q
theorem AirX.kept {h' : Heap} (x : AirX X pins σ H a B sI cls d s) (k : ∀ b o, s.heap.get? b = some o → h'.get? b = some o) : AirX X pins σ H a B sI cls d { s with heap := h' } := by
  obtain ⟨f1, f2, f3, oe, vs, T, oT, ts, he, hz, hd, h1, hn, hne, hT, hdT, h3⟩ := x.fl
  exact ⟨x.inv, x.nb, x.up.trans (Heap.UpToSlots.of_keeps k), ⟨fun b o q => k b o (f1 b o q), f2, f3.of_keeps fun b o q _ => ⟨o, k b o q, rfl⟩, oe, vs, T, oT, ts, k _ _ he, hz, hd, h1, hn, hne, k _ _ hT, hdT, h3⟩, x.na, x.os, x.ag⟩
theorem inv_suite (I : Inv X pins σ H s) : Inv (X.suite a (X.pn ++ pins)) [] σ H s :=
  ⟨I.ok.suite _ _, I.os, I.bare, I.base, I.loc, I.cell, I.free, I.freeC, fun p hp => I.pin p (by rw [List.append_nil] at hp; exact hp), I.hok, I.len⟩
theorem inv_unsuite {pn' : List (Addr × Obj)} (I : Inv (X.suite a (X.pn ++ pins)) pn' σ H s) (ok : X.Ok) : Inv X pins σ H s :=
  ⟨ok, I.os, I.bare, I.base, I.loc, I.cell, I.free, I.freeC, fun p hp => I.pin p (List.mem_append_left _ hp), I.hok, I.len⟩
end
def TXm (X : Cx) (e : Expr) (cm : Value → Option Bool) : Prop := ∀ (a : Addr) (pn pins : List (Addr × Obj)) (σ : L2.St) (H : Hp) (s : Shared) (cls : Value) (b : Bool) (Q : Bool → Shared → Prop) (E : Value → Shared → Prop), Inv (X.suite a pn) pins σ H s → PySem.W.Looks (model X.prog X.w) s.heap (typeOf (.ref a)) cls → cm cls = some b →
  (∀ h', (∀ q o, s.heap.get? q = some o → h'.get? q = some o) → Q b { s with heap := h' }) → wpAny (model X.prog X.w) (X.A.mark (some (.ref a))) (eval e X.env) (fun c s1 => wpAny (model X.prog X.w) (X.A.mark (some (.ref a))) (excMatches (.ref a) c) Q E s1) E s
section
variable {X : Cx}
theorem nm_ld {x : Str} {c : Value} {a : Addr} {pn pins : List (Addr × Obj)} {σ : L2.St} {H : Hp} {s : Shared} {np : Pos} {Q E : Value → Shared → Prop} (hc : Names X x c) (I : Inv (X.suite a pn) pins σ H s) (q : Q c s) : wpAny (model X.prog X.w) (X.A.mark (some (.ref a))) (eval (.Name x np) X.env) Q E s := by
  obtain ⟨hg, hdbg, hm | ⟨hm, hv, hnn⟩⟩ := hc
  · exact ld_glob (X := X.suite a pn) I hg hm q hdbg
  · exact ld_blt (X := X.suite a pn) I hg hm hv q hnn hdbg
theorem txm_name {x : Str} {c : Value} {np : Pos} (hc : Names X x c) : TXm X (.Name x np) (fun cls => PySem.W.exmOne X.K cls c) := fun a pn pins σ H s cls b Q E I LT e q =>
  nm_ld hc I ((PySem.W.exm_one I.kIn LT e).here (q s.heap fun _ _ z => z))
end
abbrev WH := Ends → Addr → Value → Option Addr → L2.St → Hp → Prop
def PH (X : Cx) (hs : List ExceptHandler) (tw : WH) : Prop := ∀ (a : Addr) (B : Heap) (sI : Shared) (pins : List (Addr × Obj)) (σ : L2.St) (H : Hp) (cls : Value) (d : Option Addr) (s : Shared) (D : Ends), AirX X pins σ H a B sI cls d s → tw D a cls d σ H →
  wpAny (model X.prog X.w) X.A (handleBy (.ref a) X.env hs) (L2.SP X pins D) X.xe s
def whNil (W : WX) : WH := fun _ _ cls d σ H => W cls d σ H
def Ends.no (D : Ends) (i : Nat) : Ends := { nx := fun σ H => D.nx (σ.set i none) H, rt := D.rt, bk := fun σ H => D.bk (σ.set i none) H, ct := fun σ H => D.ct (σ.set i none) H }
def wAsH (cm : Value → Option Bool) (i : Nat) (ts : TS) (tr : WH) : WH := fun D a cls d σ H => ∃ b, cm cls = some b ∧ (b = true → ts (Ends.no D i) (σ.set i (some (.ref a))) (upd H a (ExV cls d a))) ∧ (b = false → tr D a cls d σ H)
section
variable {X : Cx} {e : Expr} {cm : Value → Option Bool} {n : Str} {i : Nat} {b₀ : Stmt} {suite body : List Stmt} {hds : List ExceptHandler} {h₀ : ExceptHandler} {ts : TS} {tr tw : WH} {W : WX} {tb : WX → TS} {pos pos' : Pos}
theorem ph_nil (hf : X.env.frame = some X.env.locals) (tk : Takes X W) : PH X [] (whNil W) := fun a B sI pins σ H cls d s D x w => by
  refine wpAny_handleBy_nil ?_
  obtain ⟨_, _, _, oe, vs, T, oT, _, he, _, hd, h1, _⟩ := id x.fl
  unfold PySem.passOn
  refine wpAny_bind (wpAny_field he hd h1 ?_)
  rw [if_neg (show ¬ ((Value.ref T == Value.none) = true) from by simp)]
  have out : wpAny (model X.prog X.w) X.A (setFlight (.ref a) X.env.frame) (fun _ s2 => wpAny (model X.prog X.w) X.A (throw (.ref a) : Sem Flow) (L2.SP X pins D) X.xe s2) X.xe s := by
    rw [hf]
    refine HandSPX.setFlight_upZ x.fl fun h2 hh up2 => wpAny_throw (tk _ _ ?_)
    exact ⟨a, B, sI, pins, σ, H, cls, d, rfl, x.inv, x.nb, x.up.trans up2, .inr (.inr hh), x.na, x.os, x.ag, w⟩
  first
    | exact wpAny_bind (wpAny_pure (wpAny_bind out))
    | exact wpAny_bind out
theorem ph_as (hN : X.N.Nodup) (hi : X.N[i]? = some n) (hln : X.env.kindOf n = some .local) (hx : X.ex = []) (he : TXm X e cm) (hsu : ∀ (a : Addr) (pn : List (Addr × Obj)), PSs (X.suite a pn) (b₀ :: suite) ts) (hr : PH X hds tr) :
    PH X (.ExceptHandler (some e) (some n) (b₀ :: suite) pos' :: hds) (wAsH cm i ts tr) := fun a B sI pins σ H cls d s D x w => by
  obtain ⟨b, hb, hyes, hno⟩ := w
  have ok := x.inv.ok
  obtain ⟨oe, vs, hoe, hz, hd⟩ := x.fl.there
  refine wpAny_handleBy_cons (codeAny_handlers_test (he a _ [] σ H s cls b _ _ (inv_suite (pins := pins) x.landed) (fun A Q E s2 k q => wpAny_typeOf_ref (k _ _ hoe) (by rw [hz.1]; exact q)) hb fun h' k => ?_)) (by intro q; cases q)
  have x' := x.kept k
  cases b with
  | false => exact hr a B sI pins σ H cls d _ D x' (hno rfl)
  | true =>
    refine codeAny_handlers_suite_as (HandSPX.lands_againZ x'.fl fun h2 fl2 up2 => ?_)
    have x2 : AirX X pins σ H a B sI cls d { s with heap := h2 } := ⟨x.inv, x.nb, x'.up.trans up2, fl2, x.na, x.os, x.ag⟩
    refine store_ok (X := X.suite a (X.pn ++ pins)) (v := .ref a) (inv_suite (x2.held hx)) hN hi (.inl hln) rfl (fun s5 S5 => ?_) (.inr hln)
    refine wpAny_mono ((hsu a (X.pn ++ pins)).run [] s5 _ _ _ S5 (hyes rfl)) (fun f s6 hsp => ?_) fun _ _ z => False.elim z
    have fin : ∀ {σ6 : L2.St} {H6 : Hp} {Q : Shared → Prop}, Inv (X.suite a (X.pn ++ pins)) [] σ6 H6 s6 → (∀ s7, Inv X pins (σ6.set i none) H6 s7 → Q s7) → wpAny (model X.prog X.w) X.A (do bindName X.env n .none; unbindBehindTheSuite X.env n pos') (fun _ s7 => Q s7) X.xe s6 := fun S6 hq => gone_ok (inv_unsuite S6 ok) hN hi hln hq
    cases f with
    | next => obtain ⟨σ6, H6, S6, q6⟩ := hsp; exact fin S6 fun s7 J7 => ⟨_, _, J7, q6⟩
    | brk => obtain ⟨σ6, H6, S6, q6⟩ := hsp; exact fin S6 fun s7 J7 => ⟨_, _, J7, q6⟩
    | cont => obtain ⟨σ6, H6, S6, q6⟩ := hsp; exact fin S6 fun s7 J7 => ⟨_, _, J7, q6⟩
    | ret u => obtain ⟨v6, σ6, H6, S6, r6, q6⟩ := hsp; exact fin S6 fun s7 J7 => ⟨_, _, _, J7, r6, q6⟩
def tTryG (tb : WX → TS) (tw : WH) : TS := fun D σ H => tb (fun cls d σ' H' => ∀ a, H' a = none → tw D a cls d σ' H') D σ H
theorem ps_tryG (hs : X.stack = X.env :: X.outer) (hf : X.env.frame = some X.env.locals) (hb : ∀ (W : WX) (pn : List (Addr × Obj)) (xe : Value → Shared → Prop), Takes (X.tr pn xe) W → PassesOwn (model X.prog X.w) X.A X.env xe → PSs (X.tr pn xe) body (tb W))
    (hh : PH X (h₀ :: hds) tw) : PS X (.Try body (h₀ :: hds) [] [] pos) (tTryG tb tw) := by
  refine ⟨fun pins s σ H D I h => ?_⟩
  have ok := I.ok
  have hfr : X.A.frames = some (X.env :: X.outer) := by rw [ok.frames, hs]
  refine wpAny_Try_except (wpAny_mono ((hb (fun cls d σ' H' => ∀ a, H' a = none → tw D a cls d σ' H') (X.pn ++ pins) (fun e s₁ => wpAny (model X.prog X.w) X.A (noteFrame e X.env) (fun _ s₂ => wpAny (model X.prog X.w) X.A (setFlight e none) (fun _ s₃ =>
    wpAny (model X.prog X.w) X.A (handleBy e X.env (h₀ :: hds)) (L2.SP X pins D) X.xe s₃) X.xe s₂) X.xe s₁) (fun u s' xx => ?_) PassesOwn.looking).run [] s σ H D (I.toTry _) h) (fun f s1 hsp => ?_) (fun e s1 he => he))
  · obtain ⟨a, B, sI, pins', σ', H', cls, d, rfl, J', nb, up, sky, na, os, ag, w⟩ := xx
    have J : Inv X pins σ' H' sI := J'.ofTry ok
    have sky2 : Sky B (X.env :: X.outer) a (Zc cls d) X.env.locals s'.heap := by rw [← hs]; exact sky
    show wpAny (model X.prog X.w) X.A (noteFrame (.ref a) X.env) _ _ _
    exact Sky.land Zc.steady hfr hf sky2 fun h3 fl3 up3 => hh a B sI pins σ' H' cls d _ D ⟨J, nb, up.trans up3, by rw [hs]; exact fl3, na, os, ag⟩ (w a na)
  · cases f with
    | next => obtain ⟨σ', H', J', q⟩ := hsp; exact wpAny_execs_nil ⟨σ', H', J'.ofTry ok, q⟩
    | brk => obtain ⟨σ', H', J', q⟩ := hsp; exact ⟨σ', H', J'.ofTry ok, q⟩
    | cont => obtain ⟨σ', H', J', q⟩ := hsp; exact ⟨σ', H', J'.ofTry ok, q⟩
    | ret u => obtain ⟨v, σ', H', J', r, q⟩ := hsp; exact ⟨v, σ', H', J'.ofTry ok, r, q⟩
end
end Uv

namespace Uv
open PySem PySem.Spec PyProof.Rows L2
open Evl (Ex)
variable [kk : KK]
abbrev HdL := List ((Nat → Option Bool) × Nat × XS)
def outNo (i : Nat) : Out → Option Out
  | .nxt ρ => some (.nxt (ρ.set i .un))
  | .brk ρ => some (.brk (ρ.set i .un))
  | .cnt ρ => some (.cnt (ρ.set i .un))
  | .ret d ρ => match isExz d with
    | none => some (.ret d (ρ.set i .un))
    | some _ => none
  | .retO _ _ => none
def hdGo : HdL → Nat → List PD → Env → Option Out
  | [], n, es, ρ => some (.ret (exzD n es) ρ)
  | (t, i, y) :: r, n, es, ρ => (t n).bind fun b => if b = true then (if i < ρ.length then (y (ρ.set i (.dat (heldD n es)))).bind (outNo i) else none) else hdGo r n es ρ
def tryO (hs : HdL) : Out → Option Out
  | .ret d ρ => match isExz d with
    | none => some (.ret d ρ)
    | some (n, es) => hdGo hs n es ρ
  | o => some o
def sTryH (hs : HdL) (x : XS) : XS := fun ρ => (x ρ).bind (tryO hs)
inductive HdX (W : WX) : HdL → WH → Prop
  | nil : HdX W [] (whNil W)
  | cons {t : Nat → Option Bool} {i : Nat} {y : XS} {r : HdL} {cm : Value → Option Bool} {ts : TS} {tr : WH} (hc : ∀ n C b, kk.cl n = some C → t n = some b → cm (.ref C) = some b) (hy : SS ts y) (hi : i ≠ 0) (hr : HdX W r tr) : HdX W ((t, i, y) :: r) (wAsH cm i ts tr)
theorem hd_go {W : WX} : ∀ {hs : HdL} {tw : WH}, HdX W hs tw → ∀ {pn : Pn} {F : Hs} {T : Trs} {H : Hp} {σ : L2.St} {ρ : Env} {n : Nat} {es : List PD} {C : Addr} {od : Option Addr} {o : Out} {D : Ends}, StOk pn F T H σ ρ → ExcAt H (SF F T) n es C od → hdGo hs n es ρ = some o → OutZ W pn F T H D o →
    ∀ a, H a = none → tw D a (.ref C) od σ H
  | _, _, .nil, pn, F, T, H, σ, ρ, n, es, C, od, o, D, st, ea, e, q, a, na => by
    cases e
    exact q.1 n es ρ _ rfl rfl C od σ T H st Stp.refl ea
  | _, _, .cons (i := i) hc hy hi hr, pn, F, T, H, σ, ρ, n, es, C, od, o, D, st, ea, e, q, a, na => by
    obtain ⟨b, h1, e⟩ := bind_some e
    refine ⟨b, hc n C b ea.cl h1, fun hb => ?_, fun hb => ?_⟩
    · subst hb
      rw [if_pos rfl] at e
      split at e
      · rename_i hl
        obtain ⟨o1, h2, e⟩ := bind_some e
        have e2 := Ex.new (o := ExV (.ref C) od a) na
        have st2 := st.ex e2
        obtain ⟨xs, k1, k2⟩ := ea.at_
        obtain ⟨st3, s3⟩ := st2.set (v := .ref a) (d := heldD n es) hi (.exo ea.cl (new_ok st.als na) (k1.ex (hid_ex e2)) (k2.ex (hid_ex e2)))
        have s13 : Stp F T H (setT T i []) _ := (Stp.ex st.al e2).trans s3
        have fin : ∀ {σ' : L2.St} {ρ' : Env} {T' : Trs} {H' : Hp}, StOk pn F T' H' σ' ρ' → ∃ T2, StOk pn F T2 H' (σ'.set i none) (ρ'.set i .un) ∧ Stp F T' H' T2 H' := fun st' => ⟨_, st'.drop hi rfl⟩
        refine hy pn F _ _ _ _ o1 _ st3 h2 ?_
        cases o1 with
        | nxt ρ' =>
          cases e
          intro σ' T' H' st' s'
          obtain ⟨T2, st4, s4⟩ := fin st'
          exact q.2 (fun _ _ z => nomatch z) _ T2 H' st4 ((s13.trans s').trans s4)
        | brk ρ' =>
          cases e
          intro σ' T' H' st' s'
          obtain ⟨T2, st4, s4⟩ := fin st'
          exact q.2 (fun _ _ z => nomatch z) _ T2 H' st4 ((s13.trans s').trans s4)
        | cnt ρ' =>
          cases e
          intro σ' T' H' st' s'
          obtain ⟨T2, st4, s4⟩ := fin st'
          exact q.2 (fun _ _ z => nomatch z) _ T2 H' st4 ((s13.trans s').trans s4)
        | ret d ρ' =>
          intro v σ' T' H' st' s' rv
          have i0 := rp_noexz rv
          have e : (match isExz d with | none => some (Out.ret d (ρ'.set i .un)) | some _ => none) = some o := e
          rw [i0] at e
          cases e
          obtain ⟨T2, st4, s4⟩ := fin st'
          exact q.2 (fun d2 ρ2 e2 => by cases e2; exact i0) v _ T2 H' st4 ((s13.trans s').trans s4) (rv.ex s4.vis)
        | retO _ _ => cases e
      · cases e
    · subst hb
      rw [if_neg (by simp)] at e
      exact hd_go hr st ea e q a na
theorem ssz_tryH {W : WX} {tb : WX → TS} {x : XS} {hs : HdL} {tw : WH} (hb : ∀ W, SSZ W (tb W) x) (hh : HdX W hs tw) : SSZ W (tTryG tb tw) (sTryH hs x) := fun pn F T H σ ρ o D st e q => by
  obtain ⟨o1, h1, e⟩ := bind_some e
  refine hb _ pn F T H σ ρ o1 D st h1 ⟨fun n es ρ1 d e1 i C od σ' T' H' st' s' ea a na => ?_, fun z => ?_⟩
  · subst e1
    have e : (match isExz d with | none => some (Out.ret d ρ1) | some (n, es) => hdGo hs n es ρ1) = some o := e
    rw [i] at e
    exact hd_go hh st' ea e (q.step s') a na
  · cases o1 with
    | ret d ρ1 =>
      have i := z d ρ1 rfl
      have e : (match isExz d with | none => some (Out.ret d ρ1) | some (n, es) => hdGo hs n es ρ1) = some o := e
      rw [i] at e
      cases e
      exact q.2 z
    | _ => cases e; exact q.2 fun _ _ z => nomatch z
def noXz : Out → Option Out
  | .ret d ρ => match isExz d with
    | none => some (.ret d ρ)
    | some _ => none
  | o => some o
def sNoZ (x : XS) : XS := fun ρ => (x ρ).bind noXz
theorem ss_noZ {t : TS} {x : XS} (h : SSZ (fun _ _ _ _ => False) t x) : SS t (sNoZ x) := fun pn F T H σ ρ o D st e q => by
  obtain ⟨o1, h1, e⟩ := bind_some e
  refine h pn F T H σ ρ o1 D st h1 ⟨fun n es ρ1 d e1 i => ?_, fun z => ?_⟩
  · subst e1
    have e : (match isExz d with | none => some (Out.ret d ρ1) | some _ => none) = some o := e
    rw [i] at e
    cases e
  · cases o1 with
    | ret d ρ1 =>
      have i := z d ρ1 rfl
      have e : (match isExz d with | none => some (Out.ret d ρ1) | some _ => none) = some o := e
      rw [i] at e
      cases e
      exact q
    | _ => cases e; exact q
end Uv

namespace Uv
open PySem PySem.Spec PyProof.Rows L2
open Evl (Ex)
variable [kk : KK]
def SlW (G H : Hp) (v : V) (s : Sl) (A : List Addr) : Prop := match s with
  | .own cs => Own G H v cs A
  | .hal _ h => Hal G H v h A
  | _ => False
structure Owm (m : Nat) (F : Hs) (T : Trs) (H : Hp) (vs : List V) (ss : List Sl) : Prop where
  lv : vs.length = m
  ls : ss.length = m
  off : ∀ i x, x ∈ T i → ¬ F x
  dis : ∀ i j x, x ∈ T i → x ∈ T j → i = j
  nd : ∀ i, (T i).Nodup
  out : ∀ i, m ≤ i → T i = []
  own : ∀ i v s, vs[i]? = some v → ss[i]? = some s → SlW (hid (SF F T) H) H v s (T i)
def posOf : List Nat → Nat → Option Nat
  | [], _ => none
  | j :: r, x => if x = j then some 0 else (posOf r x).map (· + 1)
theorem posOf_some : ∀ {js : List Nat} {x i : Nat}, posOf js x = some i → js[i]? = some x
  | j :: r, x, i, h => by
    unfold posOf at h
    split at h
    · rename_i e; cases h; rw [e]; rfl
    · obtain ⟨k, h1, rfl⟩ := Option.map_eq_some_iff.mp h
      simpa using posOf_some h1
theorem posOf_of : ∀ {js : List Nat} {x i : Nat}, js.Nodup → js[i]? = some x → posOf js x = some i
  | j :: r, x, 0, _, h => by cases h; unfold posOf; rw [if_pos rfl]
  | j :: r, x, i + 1, nd, h => by
    have h : r[i]? = some x := by simpa using h
    obtain ⟨n1, n2⟩ := List.nodup_cons.mp nd
    have : x ≠ j := fun z => n1 (by rw [← z]; exact List.mem_of_getElem? h)
    unfold posOf
    rw [if_neg this, posOf_of n2 h]
    rfl
def backAt : Option Sl → Sl → Option Sl
  | some (.own _), .own cs => some (.own cs)
  | some (.hal k _), .hal _ h => some (.hal k h)
  | _, _ => none
def backs : Env → List Nat → List Sl → Option Env
  | ρ, [], [] => some ρ
  | ρ, j :: r, s :: ss => (backAt ρ[j]? s).bind fun s' => backs (ρ.set j s') r ss
  | _, _, _ => none
theorem backs_at : ∀ {js : List Nat} {ss : List Sl} {ρ ρ' : Env}, js.Nodup → backs ρ js ss = some ρ' → ρ'.length = ρ.length ∧ (∀ j, posOf js j = none → ρ'[j]? = ρ[j]?) ∧ ∀ (k j : Nat) (s : Sl), js[k]? = some j → ss[k]? = some s → ∃ s', backAt ρ[j]? s = some s' ∧ ρ'[j]? = some s'
  | [], [], ρ, ρ', _, h => by cases h; exact ⟨rfl, fun _ _ => rfl, fun k j s h => nomatch h⟩
  | a :: r, s :: ss, ρ, ρ', nd, h => by
    obtain ⟨s', h1, h⟩ := bind_some h
    obtain ⟨n1, n2⟩ := List.nodup_cons.mp nd
    obtain ⟨l, f, g⟩ := backs_at n2 h
    rw [List.length_set] at l
    refine ⟨l, fun j hj => ?_, fun k j s1 hk hs => ?_⟩
    · unfold posOf at hj
      split at hj
      · cases hj
      · rename_i ne
        rw [f j (by simpa using hj), List.getElem?_set_ne (Ne.symm ne)]
    · cases k with
      | zero =>
        cases hk
        cases hs
        refine ⟨s', h1, ?_⟩
        have hp : posOf r a = none := by
          cases e : posOf r a with
          | none => rfl
          | some i => exact absurd (List.mem_of_getElem? (posOf_some e)) n1
        have hl : a < ρ.length := by
          cases e : ρ[a]? with
          | none => rw [e] at h1; cases h1
          | some z => exact (List.getElem?_eq_some_iff.mp e).1
        rw [f a hp, List.getElem?_set_self hl]
      | succ k =>
        have hk : r[k]? = some j := by simpa using hk
        obtain ⟨s2, g1, g2⟩ := g k j s1 hk (by simpa using hs)
        have ne : a ≠ j := fun z => n1 (by rw [z]; exact List.mem_of_getElem? hk)
        rw [List.getElem?_set_ne ne] at g1
        exact ⟨s2, g1, g2⟩
  | [], _ :: _, _, _, _, h => nomatch h
  | _ :: _, [], _, _, _, h => nomatch h
end Uv

namespace Uv
open PySem PySem.Spec PyProof.Rows L2
open Evl (Ex)
variable [kk : KK]
def tVsL : List Nat → TA → TA
  | [], ts => ts
  | j :: r, ts => tCons (tVar j) (tVsL r ts)
theorem tVsL_ok {σ : L2.St} {H : Hp} {ts : TA} {Q : List V → Hp → Prop} : ∀ {js : List Nat} {vs : List V}, vs.length = js.length → (∀ (k j : Nat) (v : V), js[k]? = some j → vs[k]? = some v → σ[j]? = some (some v)) → ts σ H (fun ws H' => Q (vs ++ ws) H') → tVsL js ts σ H Q
  | [], [], _, _, q => q
  | [], _ :: _, h, _, _ => by cases h
  | _ :: _, [], h, _, _ => by cases h
  | j :: r, v :: vs, hl, h, q => ⟨v, h 0 j v rfl rfl, tVsL_ok (js := r) (vs := vs) (Q := fun xs H2 => Q (v :: xs) H2) (by simpa using hl) (fun k j2 w h1 h2 => h (k + 1) j2 w (by simpa using h1) (by simpa using h2)) q⟩
section
variable {W : WX} {js : List Nat} {g : List Sl → List PD → Option (PD × List Sl)} {ts : TA} {as : XWA} {te : TE}
end
def HS.put (h : HS) (i : Nat) (d : PD) : Option HS := match i, d with
  | 0, .tuple ws => some { h with ws := ws }
  | 1, .tuple st => some { h with st := st }
  | 2, .bool b => some { h with bz := b }
  | _, _ => none
end Uv

namespace Uv
open PySem PySem.Spec PyProof.Rows L2
open Evl (Ex)
section
variable {X : Cx} {j k : Nat} {C : Addr} {x : Str} {sp : Sp} {W : WX} {e : Expr} {es : List Expr} {t : TA} {p pos : Pos}
end
variable [kk : KK]
end Uv

namespace Uv
open PySem PySem.Spec PyProof.Rows L2
open Evl (Ex)
variable [kk : KK]
end Uv

namespace Uv
open PySem PySem.Spec PyProof.Rows L2
open Evl (Ex)
variable [kk : KK]
section
variable {W : WX} {i : Nat} {acts : Nat → List PD → Option PD} {ts : TA} {as : XA} {ta tz : TE} {x z : XE}
end
end Uv

namespace Uv
open PySem PySem.Spec PyProof.Rows L2
open Evl (Ex)
section
variable {P : Program} {w : World} {K : PySem.W.Frag} {mg : Str → Option Value} {base : Heap}
end
variable [kk : KK]
section
variable {X : Cx} {j k : Nat} {x kw : Str} {sp : Sp} {p pos kpos : Pos} {e ke : Expr} {es : List Expr} {t : TA} {te : TE} {W : WX}
end
end Uv

namespace Uv
open PySem PySem.Spec PyProof.Rows L2
open Evl (Ex)
def AllL (P : Nat → Addr → Prop) : List (Nat × Addr) → Prop
  | [] => True
  | p :: r => P p.1 p.2 ∧ AllL P r
theorem AllL.at {P : Nat → Addr → Prop} : ∀ {l : List (Nat × Addr)}, AllL P l → ∀ n C, l.lookup n = some C → P n C
  | [], _, _, _, h => nomatch h
  | (k, a) :: r, h, n, C, e => by
    rw [List.lookup] at e
    split at e
    · rename_i z
      cases e
      rw [show n = k from by simpa using z]
      exact h.1
    · exact h.2.at n C e
theorem walk_vK {l : PySem.W.OpenLaw} {n k : Nat} {q : Program} {loose : List Str} {XP : (Str → Option Value) → Heap → Prop} {YP : World → Heap → Prop} {d : DefRec} {K : Params → PySem.W.Frag} {f : List PD → Option PD} {x : Str}
    (hn : l.most = some n) (hn2 : n ≤ sizeLine) (hdf : d.params.defaults = []) (hr : Room k callerA) (hY : ∀ (w : World) (h : Heap), YP w h → (K w.params).In h)
    (F : ∀ (w : World) (mg : Str → Option Value) (fa : Addr) (h : Heap), (K w.params).In h → h.Ns mainGlobals mg → mg d.name = some (.ref fa) →
      ∃ (kk : KK) (fd : FuncData), kk.fr = K w.params ∧ (∀ (s : Shared) (u : Value), BindsTo s fd ⟨[u], []⟩ [(x, u)]) ∧ ∀ base : Heap, (K w.params).In base → base.Ns mainGlobals mg → FnG l.prog w (K w.params) mg base k fa fd [x] (@spF kk f))
    (hf : ∀ ns : List Int, ns.length ≤ n → f [scrD (ns.map PyData.int)] = some (.bool true)) :
    PySem.W.WalkO q loose XP YP l.row.toRowW d [] (fun f vs => PySem.call f vs) := by
  refine Att.attach_call hn hdf fun w s₀ s₁ mg mb fa o pm cd doc a vs ns G Y ho hd hcd hmg hobj hints hlen hg => ?_
  obtain ⟨kk, fd, hkk, hb, hF⟩ := F w mg fa _ (hY w _ Y) G.T.g hmg
  refine top_call (hY w _ Y) G.T.g G.T.b G.T.builtins G.T.nolimit hg hobj hints (Nat.le_trans hlen hn2) hr hF hb fun H hS => ?_
  have eh : hid (fun _ => False) H = H := funext fun x => hid_out fun z => z
  refine ⟨fun _ => False, [scrD (ns.map PyData.int)], .bool true, fun x z => z.elim, .cons (.scr (xs := ns.map V.int) (by rw [eh]; show SqL kk.fr H a _; rw [hkk]; exact hS) (RpAll.ofInts ns)) .nil, hf ns hlen, fun v H2 _ rv => ?_⟩
  cases rv
  rfl
variable [kk : KK]
end Uv
namespace Uv
open PySem PySem.Spec PyProof.Rows L2
end Uv
namespace Uv
open L2
end Uv

namespace Uv
open PySem PySem.Spec PyProof.Rows L2
open Evl (Ex)
theorem itb {f q : Option Bool} {v : Bool} (hf : f = some v) (h : q = some v) : ∀ b, f = some b → q = some b := fun b e => by rw [hf] at e; cases e; exact h
theorem kit_yes {K : PySem.W.Frag} {c C : Addr} (hd : PySem.W.hasDictIn K C = true) (ht : PySem.W.typeIn K (.ref C) = some (.type "type")) (h : PySem.W.subIn K (.ref c) (.ref C) = some true) : PySem.W.kitOne K (.ref c) (.ref C) = some true := kit_ref hd ht h fun _ => rfl
theorem kit_no {K : PySem.W.Frag} {c C : Addr} (hd : PySem.W.hasDictIn K C = true) (ht : PySem.W.typeIn K (.ref C) = some (.type "type")) (h : PySem.W.subIn K (.ref c) (.ref C) = some false) (hs : PySem.W.subIn K (.ref c) (.ref c) = some true) : PySem.W.kitOne K (.ref c) (.ref C) = some false :=
  kit_ref hd ht h fun z => by cases z; rw [hs] at h; cases h
def AllN (P : Nat → Prop) : List Nat → Prop
  | [] => True
  | n :: r => P n ∧ AllN P r
theorem AllN.at {P : Nat → Prop} : ∀ {l : List Nat}, AllN P l → ∀ n, n ∈ l → P n
  | [], _, n, h => nomatch h
  | m :: r, h, n, hn => (List.mem_cons.mp hn).elim (fun e => e ▸ h.1) fun z => h.2.at n z
section
variable {P : Program} {w : World} {K : PySem.W.Frag} {mg : Str → Option Value} {base : Heap} {k : Nat} {x y : Str} {sp : Sp} {f : Addr}
end
section
variable {X : Cx}
end
variable [kk : KK]
end Uv

namespace Uv
open PySem PySem.Spec PyProof.Rows L2
open Evl (Ex)
section
variable {P : Program} {w : World} {K : PySem.W.Frag} {mg : Str → Option Value} {base : Heap}
end
end Uv

namespace Uv
open PySem PySem.Spec PyProof.Rows L2
open Evl (Ex)
section
variable {X : Cx} {x : Str} {C : Addr} {fld f1 f2 : Str} {e e' : Expr} {te te' : TE} {p pos : Pos} {j : Nat}
end
variable [kk : KK]
section
variable {n : Nat} {C : Addr} {fld f1 f2 : Str} {te te' : TE} {x y : XE}
end
end Uv

namespace Uv
open PySem PySem.Spec PyProof.Rows L2
open Evl (Ex)
def XEf (X : Cx) (W : WX) (u : Value) (s' : Shared) : Prop :=
  ∃ (a : Addr) (B : Heap) (sI : Shared) (pins : List (Addr × Obj)) (σ : L2.St) (H : Hp) (cls : Value) (d : Option Addr),
    u = .ref a ∧ Inv X pins σ H sI ∧ (∀ b o, sI.heap.get? b = some o → b ∉ frs X.stack → B.get? b = some o) ∧ sI.heap.UpToSlots s'.heap ∧
      HandSPX.FlyingZ B X.stack a (L2.Zc cls d) s'.heap ∧ H a = none ∧ s'.os = sI.os ∧ AllBare s'.gens ∧ W cls d σ H
section
variable {X : Cx} {pins : List (Addr × Obj)} {σ : L2.St} {H : Hp} {s s' : Shared} {W : WX} {E : XK}
theorem XEf.of_call (I : Inv X pins σ H s) (hW : ∀ cls d H', E cls d H' → W cls d σ H') {u : Value} (c : L2.CX X.prog X.w X.stack H s E u s') : XEf X W u s' := by
  obtain ⟨a, B, H', cls, d, rfl, fl, hok, ub, na, os, ag, hE⟩ := c
  obtain ⟨G, g1, g2⟩ := restrict s'.heap fun b => (B.get? b).isSome || decide (b ∈ frs X.stack)
  have st : B.StaysIn s'.heap := fl.1
  have gB : ∀ b o, B.get? b = some o → G.get? b = some o := fun b o e => by
    rw [g1 b (by simp [e])]
    exact st b o e
  have gF : ∀ b, b ∈ frs X.stack → G.get? b = s'.heap.get? b := fun b hb => g1 b (by simp [hb])
  have og : ∀ b o, G.get? b = some o → s'.heap.get? b = some o ∧ ((B.get? b).isSome = true ∨ b ∈ frs X.stack) := fun b o e => by
    cases q : ((B.get? b).isSome || decide (b ∈ frs X.stack)) with
    | false => rw [g2 b q] at e; cases e
    | true =>
      rw [g1 b q] at e
      exact ⟨e, by simpa [Bool.or_eq_true] using q⟩
  refine ⟨a, B, { s with heap := G, gens := s'.gens, drawn := s'.drawn, toks := s'.toks }, pins, σ, H', cls, d, rfl, ?_, fun b o e hb => ?_, Heap.UpToSlots.of_keeps fun b o e => (og b o e).1, fl, na, os, ag, hW _ _ _ hE⟩
  · refine I.call (ch := []) ⟨fun b o e n hb _ => gB b o (ub.keep b o e n hb), fun b o e n hb _ => ?_, fun b o e n _ => ub.free b o e n, fun b o e _ => ?_, ub.tups, ub.frzs, ub.tbls⟩ (hok.kept gB) ag (fun _ z => nomatch z)
    · obtain ⟨sl, q⟩ := ub.slot b o e hb
      exact ⟨sl, by rw [gF b hb]; exact q⟩
    · by_cases hb : b ∈ frs X.stack
      · obtain ⟨sl, q⟩ := ub.slot b o e hb
        exact ⟨_, by rw [gF b hb]; exact q⟩
      · obtain ⟨o', q⟩ := ub.there b o e hb
        exact ⟨o', gB b o' q⟩
  · obtain ⟨e', h⟩ := og b o e
    rcases h with h | h
    · obtain ⟨o', q⟩ := Option.isSome_iff_exists.mp h
      have z := st b o' q
      rw [e'] at z; cases z
      exact q
    · exact absurd h hb
end
theorem pe_gxF {X : Cx} {j k : Nat} {x : Str} {sp : Sp} {p pos : Pos} {e : Expr} {es : List Expr} {t : TA} {W : WX} (c : CalX X.prog X.w X.K X.mg X.base k x sp) (hr : Room j X.A) (hk : k ≤ j) (hG : X.A.guards = some []) (hg : Gl X x) (tk : ∀ u s', XEf X W u s' → X.xe u s') (ha : PA X (e :: es) t)
    (hdb : (x == ("__debug__" : Str)) = false := by decide) (he : starEach (e :: es) X.env = (false, eval e X.env) :: starEach es X.env := by rfl) (hpl : (backTo pos (starEach es X.env)).any (·.1) = false := by rfl) :
    PE X (.Call (.Name x p) (e :: es) [] pos) (tCallS sp (WE W) t) := by
  obtain ⟨f, fd, ps, F, hm, kp, b⟩ := c.ex
  refine ⟨fun pins s σ H Q I h => wpAny_Call_Name_kw (ld_glob I hg hm ?_ hdb)⟩
  refine PySem.W.callWith_K (h₀ := X.base) I.ok.mod.kin kp (thn (ha.run pos pins s σ H _ I h) fun us s1 hh => ?_) he hpl
  obtain ⟨vs, H1, I1, r, q⟩ := hh
  have hl : us.length = ps.length := by rw [← r.length]; exact F.len _ _ _ _ q
  have bd := b s1 us I1.kIn (by rw [List.append_nil]; exact hl)
  rw [List.append_nil] at bd
  refine ⟨I1.kIn, wpAny_call (codeAny_mono (F.run X.A X.stack s1 H1 ⟨us, []⟩ us vs Q (WE W σ) hG (hr.mono hk) I1.env0 bd r q) fun rr s' hq => ?_)⟩
  match rr, hq with
  | .error e, hq => exact tk e s' (XEf.of_call I1 (fun _ _ _ h => h) hq)
  | .ok (.ret u), hq => exact I1.after hq
  | .ok .next, hq => exact hq.elim
  | .ok .brk, hq => exact hq.elim
  | .ok .cont, hq => exact hq.elim
theorem comp_exc {X : Cx} {W : WX} {pins : List (Addr × Obj)} {σ : L2.St} {H3 : Hp} {s3 s' : Shared} {scope : Scope} {cl : List (Str × Addr)} {fp : List Addr} {ce : PySem.Env} {u : Value} (hs : X.stack = X.env :: X.outer) (hf : X.env.frame = some X.env.locals) (hex : X.ex = [])
    (I3 : Inv X pins σ H3 s3) (f3 : ∀ b ∈ fp, FpOk X pins H3 b ∧ b < s3.heap.objs.size) (tk : L2.Takes X W) (hce : ce = compEnvC scope cl s3.heap.objs.size X.env)
    (x : XEf (X.blk s3 H3 scope ce fp) (fun cls d _ H' => W cls d σ H') u s') : notedBy (model X.prog X.w) X.A ce (CompFails (model X.prog X.w) X.A X.xe ce) u s' := by
  obtain ⟨a, B, sI, pins', σ8, H8, cls, d, rfl, I8, nb, up, fl, na, os, ag, w⟩ := x
  have hfr : X.A.frames = some (X.env :: X.outer) := by rw [I3.ok.frames, hs]
  have cL : ce.locals = s3.heap.objs.size := by rw [hce]; rfl
  have hcf : ce.frame = X.env.frame := by rw [hce]; rfl
  have nb : ∀ b o, sI.heap.get? b = some o → b ∉ frs X.stack → B.get? b = some o := nb
  have fl : HandSPX.FlyingZ B X.stack a (L2.Zc cls d) s'.heap := fl
  rw [hs] at fl
  show wpAny (model X.prog X.w) X.A (noteFrame (.ref a) ce) _ _ s'
  rw [noteFrame_env _ hcf]
  refine HandSPX.looks_onZ L2.Zc.steady hfr hf fl fun h1 hh1 up1 => ?_
  have I7 : Inv X pins σ H8 sI := I3.call' (ch := fp) I8.os I8.base I8.hok I8.bare fun b hb => ⟨(f3 b hb).1.2.2.2.1, (f3 b hb).1.2.1, (f3 b hb).1.2.2.2.2.1, (f3 b hb).1.2.2.2.2.2⟩
  have J1 : Inv X pins σ H8 { s' with heap := h1 } := I7.landed nb hh1.1 (up.trans up1) os ag
  obtain ⟨m, hn, _⟩ := I8.loc
  have hn : sI.heap.Ns ce.locals m := hn
  have hn1 : h1.Ns ce.locals m := Heap.Ns.upToSlots hn (up.trans up1)
  refine ⟨m, hn1, fun h2 m2 hn2 sb2 => ?_⟩
  have nC : H8 s3.heap.objs.size = none := by
    have z : H8 ce.locals = none := I8.free
    rw [cL] at z
    exact z
  obtain ⟨c0, c1, _, c4, c5, c6⟩ := I3.fpOk (Nat.le_refl _) nC
  have J2 : Inv X pins σ H8 { s' with heap := h2 } := Inv.turned (s := { s' with heap := h1 }) (h' := h2) (t' := s'.toks) (it := s3.heap.objs.size) J1 (fun b o hb e => (sb2.2 b (by rw [cL]; exact hb)).trans e) c0 c1 c4 c5 c6
  obtain ⟨k1, k2, k3, oe, vs, T, oT, ts, he, hz, hd, hv1, hnT, hTe, hT, hdT, ht3⟩ := hh1
  obtain ⟨oC, es, ep, hoC, hdC, _⟩ := id hn1
  have aC : a ≠ ce.locals := fun z => by
    rw [← z, he] at hoC
    cases hoC
    rw [hd] at hdC
    cases hdC
  have TC : T ≠ ce.locals := fun z => by
    rw [← z, hT] at hoC
    cases hoC
    rw [hdT] at hdC
    cases hdC
  have ga : h2.get? a = some oe := (sb2.2 a aC).trans he
  have gT : h2.get? T = some oT := (sb2.2 T TC).trans hT
  have nT : H8 T = none := (I7.inGround nb).gone hnT
  -- what is not the exception's
  have notFr : ∀ (b : Addr) (o : Obj) (fv : Array Value), h1.get? b = some o → o.data = .fields fv → b ∉ frs (X.env :: X.outer) := fun b o fv e dd hm => by
    obtain ⟨_, o', e', hnf⟩ := k3.mem hm
    have eo : o = o' := Option.some.inj (e.symm.trans e')
    rw [← eo] at hnf
    exact hnf _ dd
  have fa := notFr a oe vs he hd
  have fT := notFr T oT ts hT hdT
  have far : ∀ b o, sI.heap.get? b = some o → b ≠ a ∧ b ≠ T := fun b o e => by
    by_cases hb : b ∈ frs X.stack
    · rw [hs] at hb
      exact ⟨fun z => fa (by rw [← z]; exact hb), fun z => fT (by rw [← z]; exact hb)⟩
    · have q := nb b o e hb
      exact ⟨fun z => by
        rw [z, k2] at q
        exact (nomatch q), fun z => by
        rw [z, hnT] at q
        cases q⟩
  have far0 : ∀ b o, X.s_0.heap.get? b = some o → b ≠ a ∧ b ≠ T := fun b o e => by
    obtain ⟨o', q⟩ := I7.base.there b o e (by rw [hex]; simp)
    exact far b o' q
  have farP : ∀ p ∈ X.pn ++ pins, p.1 ≠ a ∧ p.1 ≠ T := fun p hp => far p.1 p.2 (I7.pin p hp).1
  obtain ⟨G, g1, g2⟩ := restrict h2 fun b => !(decide (b = a) || decide (b = T))
  have gIn : ∀ b o, G.get? b = some o → h2.get? b = some o ∧ b ≠ a ∧ b ≠ T := fun b o e => by
    cases q : (!(decide (b = a) || decide (b = T))) with
    | false =>
      rw [g2 b q] at e
      cases e
    | true =>
      rw [g1 b q] at e
      simp only [Bool.not_eq_true', Bool.or_eq_false_iff, decide_eq_false_iff_not] at q
      exact ⟨e, q.1, q.2⟩
  have gOf : ∀ b o, b ≠ a → b ≠ T → h2.get? b = some o → G.get? b = some o := fun b o h1 h2 e => by
    rw [g1 b (by simp [h1, h2])]
    exact e
  have I6 : Inv X pins σ H8 { s' with heap := G } := J2.less (fun b o e => (gIn b o e).1) gOf ⟨oe, vs, ga, hd⟩ ⟨oT, ts, gT, hdT⟩ na nT far0 farP
  have B6in : ∀ b o, (PySem.W.hideAll G (frs X.stack)).get? b = some o → h2.get? b = some o := fun b o e => (gIn b o (PySem.W.of_hideAll _ e)).1
  have Bno : ∀ b, (b = a ∨ b = T) → (PySem.W.hideAll G (frs X.stack)).get? b = none := fun b hb => by
    cases q : (PySem.W.hideAll G (frs X.stack)).get? b with
    | none => rfl
    | some o =>
      obtain ⟨_, n1, n2⟩ := gIn b o (PySem.W.of_hideAll _ q)
      rcases hb with z | z
      · exact absurd z n1
      · exact absurd z n2
  have ff : h2.FunFrames (PySem.W.hideAll G (frs X.stack)) X.stack := funFrames_none (B := PySem.W.hideAll G (frs X.stack)) J2.stack fun b hb => PySem.W.hideAll_none _ hb
  unfold PySem.passOn
  refine wpAny_bind (wpAny_field ga hd hv1 ?_)
  rw [if_neg (show ¬ ((Value.ref T == Value.none) = true) from by simp)]
  rw [hcf, hf]
  refine wpAny_bind (HandSPX.setFlight_anyZ (l := X.stack) (Z := L2.Zc cls d) B6in ff ⟨oe, vs, T, oT, ts, ga, hz, hd, hv1, Bno T (.inr rfl), hTe, gT, hdT, ht3⟩ fun h3 q1 q2 q3 q4 => wpAny_throw (tk _ _ ?_))
  refine ⟨a, PySem.W.hideAll G (frs X.stack), { s' with heap := G }, pins, σ, H8, cls, d, rfl, I6, fun b o e hb => PySem.W.hideAll_get _ e hb, ?_, .inr (.inr ⟨q1, Bno a (.inl rfl), q2, q3⟩), na, rfl, J2.bare, w⟩
  exact Heap.UpToSlots.trans (Heap.UpToSlots.of_keeps fun b o e => (gIn b o e).1) q4
end Uv
namespace Uv
open PySem PySem.Spec PyProof.Rows L2
open Evl (Ex)
def tLcZ (W : WX) (wi : TI) (g : TG) (tt : TT) (te : WX → TE) (vs : List Nat) : TE := fun σ H Q => tLc wi g tt (te fun cls d _ H' => W cls d σ H') vs σ H Q
section
variable {X : Cx}
theorem pe_lcZ {W : WX} {elt tg iter : Expr} {ifs : List Expr} {scope : Scope} {own : List (Str × Nat)} {pos : Pos} {wi : TI} {g : TG} {tt : TT} {te : WX → TE} (hsk : X.stack = X.env :: X.outer) (hfm : X.env.frame = some X.env.locals) (hex : X.ex = []) (tk : L2.Takes X W)
    (hc : X.calm = true) (hN : X.N.Nodup) (hi : PI X tg iter wi) (ok : BlkOk X.N X.env.scope scope own)
    (hg : ∀ (s : Shared) (H : Hp) (C : Addr) (cl : List (Str × Addr)) (fp : List Addr), PG (X.blk s H scope (compEnvC scope cl C X.env) fp) tg g)
    (ht : ∀ (s : Shared) (H : Hp) (C : Addr) (cl : List (Str × Addr)) (fp : List Addr), PTs (X.blk s H scope (compEnvC scope cl C X.env) fp) ifs tt)
    (he : ∀ (s : Shared) (H : Hp) (C : Addr) (cl : List (Str × Addr)) (fp : List Addr) (W' : WX) (E : Value → Shared → Prop), (∀ u s', XEf ((X.blk s H scope (compEnvC scope cl C X.env) fp).wish E) W' u s' → E u s') → PE ((X.blk s H scope (compEnvC scope cl C X.env) fp).wish E) elt (te W'))
    (hs : ∀ x, foldedSetIterable iter X.env x = pure x := by intro _; rfl) : PE X (.ListComp elt [⟨tg, iter, ifs, 0⟩] scope pos) (tLcZ W wi g tt te (own.map (·.2))) := by
  refine ⟨fun pins s σ H Q I h => ?_⟩
  rw [eval_ListComp]
  obtain ⟨W', hW'⟩ : ∃ W' : WX, W' = fun cls d _ H' => W cls d σ H' := ⟨_, rfl⟩
  have h : tLc wi g tt (te W') (own.map (·.2)) σ H Q := by rw [hW']; exact h
  have frees : ∀ y ∈ scope.names, y.2 = .free → ∃ c, X.env.cells.lookup y.1 = some c := fun y hy e => (ok.free y hy e).elim (fun k => I.ok.has _ (.inl k)) fun k => I.ok.has _ (.inr k)
  refine comprehension_at (use := none) rfl hs (closure_ok frees) ok.kind (fun y hy e => by rw [ok.uniq y hy, e]) (thn (hi.run pins s σ H _ I h) fun xv s1 hx => thn hx fun itv s2 h2 => ?_)
  obtain ⟨it, fp, tn, J, H2, rfl, I2, T, st2, f2, q⟩ := h2
  refine wpAny_newObj_type (newEnv_comp ?_) (by show 0 ≤ sizeLine; decide)
  generalize hD : s2.heap.objs.size = D
  have hDn : H2 D = none := I2.hok.fresh (Nat.le_of_eq hD)
  obtain ⟨Wt, ⟨m0, w0⟩, turn⟩ := q D hDn
  generalize hs3 : ({ s2 with heap := s2.heap.push { cls := .type "list", data := .seq ([] : List Value).toArray } } : Shared) = s3
  have I3 : Inv X pins σ (upd H2 D (.lst [])) s3 := by
    subst hs3
    refine I2.laid (t' := s2.toks) (fun b o e => Heap.get?_push_of_some _ e) (Nat.le_of_eq hD) ⟨Nat.zero_le _, [], 0, .nil, ?_⟩
    subst hD
    exact Heap.get?_push_size _ rfl
  have h3 : s3.heap = s2.heap.push { cls := .type "list", data := .seq ([] : List Value).toArray } := by rw [← hs3]
  have below : ∀ b ∈ fp, b < s2.heap.objs.size := fun b hb => let ⟨_, e, _⟩ := T.obj _ _ st2 b hb; Heap.lt_size e
  have f3 : ∀ b ∈ fp, FpOk X pins (upd H2 D (.lst [])) b ∧ b < s3.heap.objs.size := fun b hb => by
    have lt := below b hb
    refine ⟨⟨?_, (f2 b hb).2⟩, by rw [h3, Heap.size_push]; exact Nat.lt_succ_of_lt lt⟩
    rw [upd_ne (by rw [← hD]; exact Nat.ne_of_lt lt)]
    exact (f2 b hb).1
  have st3 : tn 0 s3.heap := T.keep _ _ _ st2 fun b _ o e => by rw [h3]; exact Heap.get?_push_of_some _ e
  have I4 := block_start I3 ok hN f3
  obtain ⟨cl, hcl⟩ : ∃ cl, cl = cellsFrom (s3.heap.objs.size + 1) scope.names (cloFrom X.env.cells scope.names []) := ⟨_, rfl⟩
  rw [← hcl] at I4
  have pg := hg s3 (upd H2 D (.lst [])) s3.heap.objs.size cl fp
  have pt := ht s3 (upd H2 D (.lst [])) s3.heap.objs.size cl fp
  have pe := he s3 (upd H2 D (.lst [])) s3.heap.objs.size cl fp W'
  show codeAny _ _ (.compStart (.ListComp elt [⟨tg, iter, ifs, 0⟩] scope pos) 0 (.ref it) (.ref D) (compEnvC scope (cellsFrom (s3.heap.objs.size + 1) scope.names (cloFrom X.env.cells scope.names [])) s3.heap.objs.size X.env)) (compEnds (model X.prog X.w) X.A X.xe none (EP X pins σ Q) (.ref D) (compEnvC scope (cellsFrom (s3.heap.objs.size + 1) scope.names (cloFrom X.env.cells scope.names [])) s3.heap.objs.size X.env)) { s3 with heap := pushCells (s3.heap.push { cls := .type "dict", data := .dict #[] }) scope.names }
  rw [← hcl]
  have nfp : ∀ b ∈ fp, (upd H2 D (.lst [])) b = none := fun b hb => (f3 b hb).1.1
  obtain ⟨ce, hce⟩ : ∃ ce, ce = compEnvC scope cl s3.heap.objs.size X.env := ⟨_, rfl⟩
  rw [← hce] at I4 pg pt pe ⊢
  have cL : ce.locals = s3.heap.objs.size := by rw [hce]; rfl
  obtain ⟨H3, hH3⟩ : ∃ H3, H3 = upd H2 D (.lst []) := ⟨_, rfl⟩
  rw [← hH3] at I3 I4 pg pt pe w0 nfp f3
  obtain ⟨s4, hs4⟩ : ∃ s4 : Shared, s4 = { s3 with heap := pushCells (s3.heap.push { cls := .type "dict", data := .dict #[] }) scope.names } := ⟨_, rfl⟩
  rw [← hs4] at I4 ⊢
  have st4 : tn 0 s4.heap := T.keep _ _ _ st3 fun b _ o e => by rw [hs4]; exact pushCells_keeps _ _ _ _ (Heap.get?_push_of_some _ e)
  have stat : ∀ {σ' : L2.St} {H' : Hp} {s' : Shared}, Inv (X.blk s3 H3 scope ce fp) [] σ' H' s' → (∀ b ∈ fp, H' b = none) → ∀ b ∈ fp, FpOk (X.blk s3 H3 scope ce fp) [] H' b := fun {σ' H' s'} I' hn b hb =>
    ⟨hn b hb, (I'.ok.exf b hb).1, I'.ok.exfs b hb, .inl hb, fun x c e => (I'.ok.exf b hb).2 x c e, fun p hp => absurd (show p ∈ ([] : List (Addr × Obj)) ++ [] from hp) (by simp)⟩
  have loop : codeAny (model X.prog X.w) X.A (.compLoop (.ListComp elt [⟨tg, iter, ifs, 0⟩] scope pos) 0 (.ref it) (.ref D) ce) (compEnds (model X.prog X.w) X.A X.xe none (EP X pins σ Q) (.ref D) ce) s4 := by
    refine compLoop_any (fun n s' => ∃ i H', Inv (X.blk s3 H3 scope ce fp) [] (wipe σ (own.map (·.2))) H' s' ∧ tn i s'.heap ∧ (∀ b ∈ fp, H' b = none) ∧ Wt i n H') ?_ m0 ⟨0, H3, I4, st4, nfp, w0⟩
    rintro n s5 ⟨i, H5, I5, st5, n5, w5⟩
    rcases turn i n H5 w5 with ⟨stop, qq⟩ | ⟨go, Nx, hNx, step⟩
    · refine thnF (T.done (X.blk s3 H3 scope ce fp) rfl rfl rfl hc i [] s5 _ H5 (fun _ _ => False) I5 (stat I5 n5) st5 stop) fun r s6 ⟨hr, I6⟩ => ?_
      subst hr
      have I7 : Inv X pins σ H5 s6 := I3.call' (ch := fp) I6.os I6.base I6.hok I6.bare fun b hb => ⟨(f3 b hb).1.2.2.2.1, (f3 b hb).1.2.1, (f3 b hb).1.2.2.2.2.1, (f3 b hb).1.2.2.2.2.2⟩
      have nC : H5 s3.heap.objs.size = none := by
        have z : H5 ce.locals = none := I6.free
        rwa [cL] at z
      obtain ⟨m, hn, _⟩ := I6.loc
      have hn : s6.heap.Ns ce.locals m := hn
      obtain ⟨c0, c1, _, c4, c5, c6⟩ := I3.fpOk (Nat.le_refl _) nC
      exact ⟨m, hn, fun h'' sb => ⟨.ref D, H5, I7.turned (t' := s6.toks) (fun b o hb e => (sb.2 b (by rw [cL]; exact hb)).trans e) c0 c1 c4 c5 c6, rfl, qq⟩⟩
    · refine thnF (T.item (X.blk s3 H3 scope ce fp) rfl rfl rfl hc i [] s5 _ H5 (fun _ _ => False) I5 (stat I5 n5) st5 go) fun r s6 ⟨u, hr, h6⟩ => ?_
      subst hr
      refine thnF h6 fun _ s7 ⟨x, H7, I7, r7, y7, st7, n7⟩ => ?_
      refine thnF (pg.run _ s7 _ H7 x u _ (I7.pinned (stat I7 n7) (T.obj _ _ st7)) r7 (step x H7 y7)) fun _ s8 ⟨σ8, H8, I8, hw8, q8⟩ => ?_
      refine thnF (pt.run _ s8 σ8 H8 _ I8 q8) fun b s9 ⟨H9, I9, q9⟩ => ?_
      have fin : ∀ {s' : Shared} {H' : Hp}, Inv (X.blk s3 H3 scope ce fp) ([] ++ pinsAt fp s7.heap) σ8 H' s' → Nx H' → ∃ m, m < n ∧ ∃ i H', Inv (X.blk s3 H3 scope ce fp) [] (wipe σ (own.map (·.2))) H' s' ∧ tn i s'.heap ∧ (∀ b ∈ fp, H' b = none) ∧ Wt i m H' := fun {s' H'} I' nx => by
        obtain ⟨m', hm, w'⟩ := hNx H' nx
        have at_ : ∀ b ∈ fp, ∀ o, s7.heap.get? b = some o → s'.heap.get? b = some o ∧ H' b = none := fun b hb o e => by
          have z := I'.pin (b, o) (List.mem_append_right _ (List.mem_append_right _ (mem_pinsAt hb e)))
          exact ⟨z.1, z.2.1⟩
        refine ⟨m', hm, i + 1, H', (I'.unpinned (pins := [])).weak (by rw [← hw8, wipe_length]) (fun j v e => ?_), T.keep _ _ _ st7 fun b hb o e => (at_ b hb o e).1, fun b hb => ?_, w'⟩
        · rw [← hw8] at e
          exact (wipe_some e).1
        · obtain ⟨o, e, _⟩ := T.obj _ _ st7 b hb
          exact (at_ b hb o e).2
      cases b with
      | false =>
        simp only [Bool.false_eq_true, if_false] at q9 ⊢
        exact fin I9 q9
      | true =>
        simp only [if_true] at q9 ⊢
        have pw := pe (notedBy (model X.prog X.w) X.A ce (CompFails (model X.prog X.w) X.A X.xe ce)) fun u s' x => comp_exc hsk hfm hex I3 f3 tk hce (by
          rw [← hW']
          obtain ⟨a, B, sI, pn, σ1, H1, cls, d, e, J1, r⟩ := x
          exact ⟨a, B, sI, pn, σ1, H1, cls, d, e, J1.unwish, r⟩)
        refine wpAny_mono (pw.run _ s9 σ8 H9 _ (I9.wish _) q9) (fun z s10 ⟨yv, H10, I10, r10, acc, hD10, hz10, nx⟩ => ?_) (fun u s' y => y)
        exact app_ok (X := X.blk s3 H3 scope ce fp) I10.unwish hD10 hz10 r10 fun s11 I11 => fin I11 nx
  exact codeAny_compStart_list loop (T.self X.A 0 _ _ _ st4 loop)
end
end Uv

namespace Uv
open PySem PySem.Spec PyProof.Rows L2
open Evl (Ex)
variable [kk : KK]
def lcGoZ (g : XGV) (t : XT) (e : XE) (ρ : VE) : List PD → Option (List PD × Option PD)
  | [] => some ([], none)
  | x :: xs => (g x ρ).bind fun ρ1 => (t ρ1).bind fun b => if b = true then (e ρ1).bind fun d => if (isExz d).isSome = true then some ([], some d) else (lcGoZ g t e ρ xs).bind fun r => some (d :: r.1, r.2) else lcGoZ g t e ρ xs
def outZ (r : List PD × Option PD) : PD := match r.2 with
  | some d => d
  | none => .list r.1
def xLcZ (src : XI) (g : XGV) (t : XT) (e : XE) (vs : List Nat) : XE := fun ρ => (src ρ).bind fun xs => if xs.length ≤ 40000 then (lcGoZ g t e (clear ρ vs) xs).bind fun r => some (outZ r) else none
theorem sez_lcZ {W : WX} {b : Bool} {wi : TI} {g : TG} {tt : TT} {te : WX → TE} {vs us : List Nat} {src : XI} {xg : XGV} {t : XT} {e : XE} (hs : SI b wi src) (hg : SGV b g xg us) (hu : ∀ i ∈ us, i ∈ vs) (ht : ST tt t) (he : ∀ W, SEZ W (te W) e) : SEZ W (tLcZ W wi g tt te vs) (xLcZ src xg t e vs) := fun ρ d h S σ H al en Q qx q => by
  obtain ⟨xs, h1, h⟩ := bind_some h
  by_cases hz : xs.length ≤ 40000
  · rw [if_pos hz] at h
    obtain ⟨r, h2, h⟩ := bind_some h
    cases h
    obtain ⟨ds, od⟩ := r
    show tLc wi g tt _ vs σ H Q
    refine hs ρ xs h1 S σ H al en _ fun J H1 e1 wk D hD => ?_
    have al1 := al.ex e1
    have alD : Al (fun x => x = D ∨ S x) (upd H1 D (.lst [])) := fun x hx => by
      by_cases c : x = D
      · subst c; rw [upd_same]; exact fun z => nomatch z
      · rw [upd_ne c]; exact al1 x (hx.resolve_left c)
    refine ⟨fun i m H' => m = xs.length - i ∧ i ≤ xs.length ∧ Ex H1 H' ∧ Al (fun x => x = D ∨ S x) H' ∧ ∃ acc ds1 ds2, H' D = some (.lst acc) ∧ acc.length ≤ i ∧ RpAll (hid (fun x => x = D ∨ S x) H') acc ds1 ∧ lcGoZ xg t e (clear ρ vs) (xs.drop i) = some (ds2, od) ∧ ds = ds1 ++ ds2,
      ⟨_, rfl, Nat.zero_le _, Ex.new hD, alD, [], [], ds, upd_same, Nat.le_refl _, .nil, h2, rfl⟩, fun i m H' hw => ?_⟩
    obtain ⟨rfl, hi, e2, al2, acc, ds1, ds2, hacc, la, ra, hgo, hds⟩ := hw
    have ewk : Ex (hid S H1) (hid (fun x => x = D ∨ S x) H') := hid_cons e2 hD
    obtain ⟨w1, w2⟩ := wk _ H' ewk al2
    by_cases hlt : i < xs.length
    · obtain ⟨w3, w4⟩ := w2 i _ (List.getElem?_eq_getElem hlt)
      rw [List.drop_eq_getElem_cons hlt] at hgo
      obtain ⟨ρ1, g1, hgo⟩ := bind_some (show (xg xs[i] (clear ρ vs)).bind _ = some (ds2, od) from hgo)
      obtain ⟨b1, t1, hgo⟩ := bind_some hgo
      refine .inr ⟨w3, fun H2 => Ex H1 H2 ∧ Al (fun x => x = D ∨ S x) H2 ∧ ∃ acc ds1 ds2, H2 D = some (.lst acc) ∧ acc.length ≤ i + 1 ∧ RpAll (hid (fun x => x = D ∨ S x) H2) acc ds1 ∧ lcGoZ xg t e (clear ρ vs) (xs.drop (i + 1)) = some (ds2, od) ∧ ds = ds1 ++ ds2, fun H2 hn => ⟨_, by omega, rfl, hlt, hn⟩, fun v H3 y => ?_⟩
      obtain ⟨e3, rv⟩ := w4 v H3 y
      have al3 := al2.ex e3
      have en3 : En (hid (fun x => x = D ∨ S x) H3) (wipe σ vs) (clear ρ vs) := clear_en (en.ex (((hid_ex e1).trans ewk).trans (hid_ex e3))) vs
      refine hg _ _ ρ1 g1 _ (wipe σ vs) H3 v en3 rv _ fun σ4 en4 off => ⟨wipe_off off hu, ?_⟩
      refine ht ρ1 b1 t1 _ σ4 H3 al3 en4 _ fun H5 e5 => ?_
      have hacc5 : H5 D = some (.lst acc) := e5 _ _ (e3 _ _ hacc)
      have ra5 := ra.ex ((hid_ex (S := fun x => x = D ∨ S x) e3).trans (hid_ex e5))
      have e15 := (e2.trans e3).trans e5
      cases b1 with
      | true =>
        obtain ⟨d1, f1, hgo⟩ := bind_some (show (e ρ1).bind _ = some (ds2, od) from hgo)
        show te _ σ4 H5 _
        refine he _ ρ1 d1 f1 _ σ4 H5 (al3.ex e5) (en4.ex (hid_ex e5)) _ (fun n es i2 C o2 H2 e6 ea => ?_) fun i2 z H6 e6 rz => ?_
        · rw [if_pos (by rw [i2]; rfl)] at hgo
          cases hgo
          exact qx n es i2 C o2 H2 ((e1.trans e15).trans e6) (ea.sub fun x hx => .inr hx)
        · rw [if_neg (by rw [i2]; exact fun z => nomatch z)] at hgo
          obtain ⟨r1, f2, hgo⟩ := bind_some hgo
          obtain ⟨ds', od'⟩ := r1
          cases hgo
          refine ⟨acc, e6 _ _ hacc5, Evl.sz_lt (by omega), Ex.mut (e15.trans e6) hD, ?_, acc ++ [z], ds1 ++ [d1], ds', upd_same, by rw [List.length_append]; simpa using la, ?_, f2, by rw [hds, List.append_assoc]; rfl⟩
          · intro x hx
            by_cases c : x = D
            · subst c; rw [upd_same]; exact fun q => nomatch q
            · rw [upd_ne c]; exact ((al3.ex e5).ex e6) x hx
          · have hu' : Ex (hid (fun x => x = D ∨ S x) H6) (hid (fun x => x = D ∨ S x) (upd H6 D (.lst (acc ++ [z])))) := fun x o h => by
              obtain ⟨c, h⟩ := hid_some h
              rw [hid_out c, upd_ne (fun z => c (.inl z))]
              exact h
            exact RpAll.append (ra5.ex ((hid_ex e6).trans hu')) (.cons (rz.ex hu') .nil)
      | false => exact ⟨e15, al3.ex e5, acc, ds1, ds2, hacc5, by omega, ra5, hgo, hds⟩
    · have ei : i = xs.length := by omega
      subst ei
      rw [List.drop_length] at hgo
      cases hgo
      rw [List.append_nil] at hds
      subst hds
      have hDn : H D = none := by
        cases qq : H D with
        | none => rfl
        | some o => rw [e1 _ _ qq] at hD; cases hD
      exact .inl ⟨w1, q rfl _ H' (e1.trans e2) (.lst (by rw [hid_out (al.new hDn)]; exact hacc) (ra.ex (hid_sub fun x hx => .inr hx)))⟩
  · rw [if_neg hz] at h; cases h
def xCBz (f : List PD → Option PD) (x : XE) : XE := fun ρ => (x ρ).bind fun d => if (isExz d).isSome = true then some d else f [d]
theorem sez_cbz {W : WX} {te : TE} {x : XE} {r : List V → Hp → VK → Prop} {f : List PD → Option PD} (hr : SC r f) (hx : SEZ W te x) : SEZ W (tCB r (tCons te tNil)) (xCBz f x) := fun ρ d h S σ H al en Q qx q => by
  obtain ⟨y, h1, h⟩ := bind_some h
  refine hx ρ y h1 S σ H al en _ (fun n es i C od H2 e2 ea => ?_) fun i v H1 e1 rv => ?_
  · rw [if_pos (by rw [i]; rfl)] at h
    cases h
    exact qx n es i C od H2 e2 ea
  · rw [if_neg (by rw [i]; exact fun z => nomatch z)] at h
    exact hr [y] d h S H1 [v] (al.ex e1) (.cons rv .nil) Q fun v2 H2 e2 r2 => q (rp_noexz r2) v2 H2 (e1.trans e2) r2
end Uv

namespace Uv
open PySem PySem.Spec PyProof.Rows L2
open Evl (Ex)
variable [kk : KK]
def spC (m : Nat) (g : List Sl → List PD → Option (PD × List Sl)) : Sp := fun vs H Q _ => ∃ (F : Hs) (T : Trs) (vs0 ws : List V) (ss : List Sl) (ds : List PD) (d : PD) (ss' : List Sl), vs = ws ++ vs0 ∧ Al F H ∧ Owm m F T H vs0 ss ∧ RpAll (hid (SF F T) H) ws ds ∧ g ss ds = some (d, ss') ∧
  ∀ v T' H', (∀ x, F x → H' x = H x) → Ex (hid (SF F T) H) (hid (SF F T') H') → Owm m F T' H' vs0 ss' → Rp (hid (SF F T') H') v d → Q v H'
def isOwn : Sl → Bool
  | .own _ => true
  | _ => false
def endC (n m : Nat) (d : PD) (ρ : Env) : Option (PD × List Sl) := if ((ρ.drop n).take m).all isOwn = true ∧ n + m ≤ ρ.length then some (d, (ρ.drop n).take m) else none
def runC (m n k : Nat) (X : XS) (ss : List Sl) (ds : List PD) : Option (PD × List Sl) := if ds.length = n ∧ ss.all isOwn = true then (X (ds.map Sl.dat ++ (ss ++ List.replicate k Sl.un))).bind fun o => match o with
  | .ret d ρ => endC n m d ρ
  | .nxt ρ => endC n m .none ρ
  | _ => none else none
theorem len_C {m n k : Nat} {X : XS} {vs : List V} {H : Hp} {Q : VK} {E : XK} (h : spC m (runC m n k X) vs H Q E) : vs.length = n + m := by
  obtain ⟨F, T, vs0, ws, ss, ds, d, ss', rfl, _, ol, ra, h, _⟩ := h
  unfold runC at h
  by_cases hn : ds.length = n ∧ ss.all isOwn = true
  · rw [List.length_append, ol.lv, ra.length, hn.1]
  · rw [if_neg hn] at h; cases h
theorem isOwn_eq {s : Sl} (h : isOwn s = true) : ∃ cs, s = .own cs := by
  cases s with
  | own cs => exact ⟨cs, rfl⟩
  | _ => cases h
theorem go_C {t : TS} {X : XS} {N : List Str} {vs : List V} {H : Hp} {Q : VK} {E : XK} {m n k : Nat} (hX : SSP (n + m) t X) (hN : N.length = n + m + k) (hs : spC m (runC m n k X) vs H Q E) : t { nx := fun _ H' => Q .non H', rt := Q } (L2.start N vs) H := by
  obtain ⟨F, T, vs0, ws, ss, ds, d, ss', rfl, al, ol, ra, h, q⟩ := hs
  unfold runC at h
  by_cases hn' : ds.length = n ∧ ss.all isOwn = true
  · rw [if_pos hn'] at h
    obtain ⟨hn, hk⟩ := hn'
    obtain ⟨o, h1, h⟩ := bind_some h
    have lv := ol.lv
    have ls := ol.ls
    have lw : ws.length = n := by rw [ra.length, hn]
    have e : N.length - (ws ++ vs0).length = k := by rw [List.length_append, lv, lw, hN]; omega
    have es : L2.start N (ws ++ vs0) = ws.map some ++ (vs0.map some ++ List.replicate k none) := by
      unfold L2.start
      rw [e, List.map_append, List.append_assoc]
    have hd : ∀ i, i < m → ∃ v, vs0[i]? = some v ∧ (L2.start N (ws ++ vs0))[n + i]? = some (some v) := fun i hi => by
      refine ⟨vs0[i]'(by omega), List.getElem?_eq_getElem (by omega), ?_⟩
      rw [es, List.getElem?_append_right (by rw [List.length_map]; omega), List.length_map, lw, show n + i - n = i by omega, List.getElem?_append_left (by rw [List.length_map]; omega), List.getElem?_map, List.getElem?_eq_getElem (by omega)]
      rfl
    obtain ⟨Tc, hTc⟩ : ∃ Tc : Trs, Tc = fun i => if i < n then [] else T (i - n) := ⟨_, rfl⟩
    have Tl : ∀ i, i < n → Tc i = [] := fun i hi => by rw [hTc]; exact if_pos hi
    have Tr : ∀ i, n ≤ i → Tc i = T (i - n) := fun i hi => by rw [hTc]; exact if_neg (by omega)
    have inT : ∀ i x, x ∈ Tc i → n ≤ i ∧ x ∈ T (i - n) := fun i x hx => by
      by_cases c : i < n
      · rw [Tl i c] at hx; cases hx
      · rw [Tr i (by omega)] at hx; exact ⟨by omega, hx⟩
    have eqv : ∀ x, SF F T x ↔ SF F Tc x := fun x => by
      constructor
      · rintro (h | ⟨i, h⟩)
        · exact .inl h
        · exact .inr ⟨n + i, by rw [Tr _ (by omega), show n + i - n = i by omega]; exact h⟩
      · rintro (h | ⟨i, h⟩)
        · exact .inl h
        · exact .inr ⟨i - n, (inT i x h).2⟩
    have eh : hid (SF F T) H = hid (SF F Tc) H := hid_eq eqv
    have st : StOk pn0 F Tc H (L2.start N (ws ++ vs0)) (ds.map Sl.dat ++ (ss ++ List.replicate k Sl.un)) := by
      refine ⟨?_, al, fun i x hx => ol.off _ x (inT i x hx).2, fun i j x hx hy => ?_, fun i => ?_, fun i hi => ?_, fun i s hi => ?_, fun v hv => nomatch hv⟩
      · rw [es]
        simp only [List.length_append, List.length_map, List.length_replicate]
        omega
      · have a := inT i x hx
        have b := inT j x hy
        have := ol.dis _ _ x a.2 b.2
        omega
      · by_cases c : i < n
        · rw [Tl i c]; exact List.nodup_nil
        · rw [Tr i (by omega)]; exact ol.nd _
      · rw [List.length_append, List.length_append, List.length_map, ls] at hi
        rw [Tr i (by omega)]
        exact ol.out _ (by omega)
      · by_cases c : i < n
        · rw [Tl i c]
          rw [List.getElem?_append_left (by rw [List.length_map]; omega), List.getElem?_map, List.getElem?_eq_getElem (by omega)] at hi
          cases hi
          obtain ⟨v, k1, k2⟩ := ra.get (List.getElem?_eq_getElem (show i < ds.length by omega))
          refine ⟨some v, ?_, rfl, v, rfl, by rw [← eh]; exact k2⟩
          rw [es, List.getElem?_append_left (by rw [List.length_map]; omega), List.getElem?_map, k1]
          rfl
        · rw [Tr i (by omega)]
          rw [List.getElem?_append_right (by rw [List.length_map]; omega), List.length_map, hn] at hi
          by_cases c2 : i - n < m
          · obtain ⟨v, ha, hs⟩ := hd (i - n) c2
            rw [List.getElem?_append_left (by omega)] at hi
            have hw := ol.own _ v s ha hi
            obtain ⟨cs, rfl⟩ := isOwn_eq (List.all_eq_true.mp hk s (List.mem_of_getElem? hi))
            rw [show n + (i - n) = i by omega] at hs
            exact ⟨_, hs, v, rfl, by rw [← eh]; exact hw⟩
          · rw [ol.out _ (by omega)]
            rw [List.getElem?_append_right (by omega), List.getElem?_replicate] at hi
            split at hi
            · rename_i c3
              cases hi
              refine ⟨none, ?_, rfl⟩
              rw [es, List.getElem?_append_right (by rw [List.length_map]; omega), List.length_map, lw, List.getElem?_append_right (by rw [List.length_map]; omega), List.getElem?_replicate, if_pos (by rw [List.length_map, lv]; omega)]
            · cases hi
    have fin : ∀ (v : V) (d1 : PD) (σ : L2.St) (ρ1 : Env) (T' : Trs) (H' : Hp), Agr (n + m) (L2.start N (ws ++ vs0)) σ → StOk pn0 F T' H' σ ρ1 → Stp F Tc H T' H' → Rp (hid (SF F T') H') v d1 → endC n m d1 ρ1 = some (d, ss') → Q v H' := by
      intro v d1 σ ρ1 T' H' ag st' s' rv ho
      unfold endC at ho
      split at ho
      · rename_i hk1
        cases ho
        obtain ⟨hk1, lm⟩ := hk1
        obtain ⟨T1, hT1⟩ : ∃ T1 : Trs, T1 = fun i => if i < m then T' (n + i) else [] := ⟨_, rfl⟩
        have T1i : ∀ i, i < m → T1 i = T' (n + i) := fun i hi => by rw [hT1]; exact if_pos hi
        have T1o : ∀ i, m ≤ i → T1 i = [] := fun i hi => by rw [hT1]; exact if_neg (by omega)
        have in1 : ∀ i x, x ∈ T1 i → i < m ∧ x ∈ T' (n + i) := fun i x hx => by
          by_cases c : i < m
          · rw [T1i i c] at hx; exact ⟨c, hx⟩
          · rw [T1o i (by omega)] at hx; cases hx
        have sub : Ex (hid (SF F T') H') (hid (SF F T1) H') := hid_sub fun x hx => hx.elim .inl fun ⟨i, z⟩ => .inr ⟨n + i, (in1 i x z).2⟩
        refine q v T1 H' s'.fr (by rw [eh]; exact s'.vis.trans sub) ⟨lv, by rw [List.length_take, List.length_drop]; omega, fun i x hx => st'.off _ x (in1 i x hx).2, fun i j x hx hy => ?_, fun i => ?_, T1o, fun i w s ha hc => ?_⟩ (rv.ex sub)
        · have := st'.dis _ _ x (in1 i x hx).2 (in1 j x hy).2
          omega
        · by_cases c : i < m
          · rw [T1i i c]; exact st'.nd _
          · rw [T1o i (by omega)]; exact List.nodup_nil
        · have im : i < m := by have := (List.getElem?_eq_some_iff.mp ha).1; omega
          obtain ⟨cs, rfl⟩ := isOwn_eq (List.all_eq_true.mp hk1 s (List.mem_of_getElem? hc))
          rw [List.getElem?_take_of_lt im, List.getElem?_drop] at hc
          obtain ⟨o', k1, v', k2, ow⟩ := st'.sl _ _ hc
          obtain ⟨a', ha', hs⟩ := hd i im
          rw [ag (n + i) (by omega), hs] at k1
          cases k1
          cases k2
          rw [ha] at ha'
          cases ha'
          rw [T1i i im]
          exact Own.mv sub (fun _ _ => rfl) ow
      · cases ho
    refine hX F Tc H _ _ o _ st h1 ?_
    cases o with
    | ret d1 ρ1 => exact fun v σ T' H' ag st' s' rv => fin v d1 σ ρ1 T' H' ag st' s' rv h
    | nxt ρ1 => exact fun σ T' H' ag st' s' => fin .non .none σ ρ1 T' H' ag st' s' .non h
    | retO _ _ => cases h
    | brk _ => cases h
    | cnt _ => cases h
  · rw [if_neg hn'] at h; cases h
def tagL : Option Sl → Option Sl
  | some (.own cs) => some (.own cs)
  | _ => none
def tagsL (ρ : Env) : List Nat → Option (List Sl)
  | [] => some []
  | j :: r => (tagL ρ[j]?).bind fun s => (tagsL ρ r).map (s :: ·)
theorem tagsL_at {ρ : Env} : ∀ {js : List Nat} {ss : List Sl}, tagsL ρ js = some ss → ss.length = js.length ∧ ∀ (k j : Nat), js[k]? = some j → ∃ s, ss[k]? = some s ∧ tagL ρ[j]? = some s
  | [], ss, h => by cases h; exact ⟨rfl, fun k j h => nomatch h⟩
  | a :: r, ss, h => by
    obtain ⟨s, h1, h⟩ := bind_some h
    obtain ⟨ss1, h2, rfl⟩ := Option.map_eq_some_iff.mp h
    obtain ⟨l, f⟩ := tagsL_at h2
    refine ⟨by simp [l], fun k j hk => ?_⟩
    cases k with
    | zero => cases hk; exact ⟨s, rfl, h1⟩
    | succ k =>
      obtain ⟨s2, g1, g2⟩ := f k j (by simpa using hk)
      exact ⟨s2, by simpa using g1, g2⟩
theorem spC_of {js : List Nat} {g : List Sl → List PD → Option (PD × List Sl)} {pn : Pn} {F : Hs} {T : Trs} {H : Hp} {σ : L2.St} {ρ ρ' : Env} {ss ss' : List Sl} {ds : List PD} {d : PD} {vs0 ws : List V} {Q : VK} {E : XK} (nd : js.Nodup) (st : StOk pn F T H σ ρ) (ht : tagsL ρ js = some ss) (hv : vs0.length = js.length) (hvs : ∀ (k j : Nat) (v : V), js[k]? = some j → vs0[k]? = some v → σ[j]? = some (some v))
    (ra : RpAll (hid (SF F T) H) ws ds) (hg : g ss ds = some (d, ss')) (hb : backs ρ js ss' = some ρ')
    (q : ∀ v T' H', StOk pn F T' H' σ ρ' → Stp F T H T' H' → Rp (hid (SF F T') H') v d → Q v H') : spC js.length g (ws ++ vs0) H Q E := by
  obtain ⟨lt, hat⟩ := tagsL_at ht
  obtain ⟨lb, bo, bi⟩ := backs_at nd hb
  obtain ⟨F1, hF1⟩ : ∃ F1 : Hs, F1 = fun x => F x ∨ ∃ j, posOf js j = none ∧ x ∈ T j := ⟨_, rfl⟩
  obtain ⟨T1, hT1⟩ : ∃ T1 : Trs, T1 = fun i => (js[i]?).elim [] T := ⟨_, rfl⟩
  have T1i : ∀ {i j : Nat}, js[i]? = some j → T1 i = T j := fun h => by rw [hT1]; show (js[_]?).elim [] T = _; rw [h]; rfl
  have T1o : ∀ {i : Nat}, js[i]? = none → T1 i = [] := fun h => by rw [hT1]; show (js[_]?).elim [] T = _; rw [h]; rfl
  have in1 : ∀ {i : Nat} {x : Addr}, x ∈ T1 i → ∃ j, js[i]? = some j ∧ x ∈ T j := fun {i x} h => by
    cases e : js[i]? with
    | none => rw [T1o e] at h; cases h
    | some j => rw [T1i e] at h; exact ⟨j, rfl, h⟩
  have eqv : ∀ x, SF F1 T1 x ↔ SF F T x := fun x => by
    constructor
    · rintro (h | ⟨i, h⟩)
      · rw [hF1] at h
        exact h.elim .inl fun ⟨j, _, h⟩ => .inr ⟨j, h⟩
      · obtain ⟨j, _, h⟩ := in1 h
        exact .inr ⟨j, h⟩
    · rintro (h | ⟨j, h⟩)
      · exact .inl (by rw [hF1]; exact .inl h)
      · cases e : posOf js j with
        | none => exact .inl (by rw [hF1]; exact .inr ⟨j, e, h⟩)
        | some i => exact .inr ⟨i, by rw [T1i (posOf_some e)]; exact h⟩
  have eh : hid (SF F1 T1) H = hid (SF F T) H := hid_eq eqv
  have off1 : ∀ i x, x ∈ T1 i → ¬ F1 x := fun i x hx h => by
    obtain ⟨j, e1, hx⟩ := in1 hx
    rw [hF1] at h
    rcases h with h | ⟨k, e2, h⟩
    · exact st.off j x hx h
    · have := st.dis j k x hx h
      subst this
      rw [posOf_of nd e1] at e2
      cases e2
  have jinj : ∀ {i k j : Nat}, js[i]? = some j → js[k]? = some j → i = k := fun h1 h2 => by
    have := posOf_of nd h1
    rw [posOf_of nd h2] at this
    exact (Option.some.inj this).symm
  -- what is told back
  have back : ∀ (T' : Trs) (H' : Hp), (∀ x, F1 x → H' x = H x) → Ex (hid (SF F1 T1) H) (hid (SF F1 T') H') → Owm js.length F1 T' H' vs0 ss' →
      ∃ T2 : Trs, StOk pn F T2 H' σ ρ' ∧ Stp F T H T2 H' ∧ ∀ x, SF F1 T' x ↔ SF F T2 x := by
    intro T' H' fr vis ol
    obtain ⟨T2, hT2⟩ : ∃ T2 : Trs, T2 = fun j => match posOf js j with | some i => T' i | none => T j := ⟨_, rfl⟩
    have T2i : ∀ {j i : Nat}, posOf js j = some i → T2 j = T' i := fun {j i} h => by rw [hT2]; show (match posOf js j with | some i => T' i | none => T j) = _; rw [h]
    have T2o : ∀ {j : Nat}, posOf js j = none → T2 j = T j := fun {j} h => by rw [hT2]; show (match posOf js j with | some i => T' i | none => T j) = _; rw [h]
    have eqv2 : ∀ x, SF F1 T' x ↔ SF F T2 x := fun x => by
      constructor
      · rintro (h | ⟨i, h⟩)
        · rw [hF1] at h
          rcases h with h | ⟨j, c, h⟩
          · exact .inl h
          · exact .inr ⟨j, by rw [T2o c]; exact h⟩
        · by_cases c : i < js.length
          · exact .inr ⟨js[i], by rw [T2i (posOf_of nd (List.getElem?_eq_getElem c))]; exact h⟩
          · rw [ol.out i (by omega)] at h; cases h
      · rintro (h | ⟨j, h⟩)
        · exact .inl (by rw [hF1]; exact .inl h)
        · cases e : posOf js j with
          | some i => rw [T2i e] at h; exact .inr ⟨i, h⟩
          | none => rw [T2o e] at h; exact .inl (by rw [hF1]; exact .inr ⟨j, e, h⟩)
    have eh2 : hid (SF F1 T') H' = hid (SF F T2) H' := hid_eq eqv2
    rw [eh, eh2] at vis
    have fF : ∀ x, F x → F1 x := fun x h => by rw [hF1]; exact .inl h
    have fO : ∀ {j : Nat} {x : Addr}, posOf js j = none → x ∈ T j → F1 x := fun e h => by rw [hF1]; exact .inr ⟨_, e, h⟩
    refine ⟨T2, ⟨by rw [lb]; exact st.len, fun x hx => by rw [fr x (fF x hx)]; exact st.al x hx, fun j x hx h => ?_, fun j k x hx hy => ?_, fun j => ?_, fun j hj => ?_, fun j s hs => ?_, st.pin⟩, ⟨fun x hx => fr x (fF x hx), vis⟩, eqv2⟩
    · cases e : posOf js j with
      | some i => rw [T2i e] at hx; exact ol.off i x hx (fF x h)
      | none => rw [T2o e] at hx; exact st.off j x hx h
    · cases e : posOf js j with
      | some i =>
        rw [T2i e] at hx
        cases e2 : posOf js k with
        | some i2 =>
          rw [T2i e2] at hy
          have := ol.dis i i2 x hx hy
          subst this
          have a1 := posOf_some e
          rw [posOf_some e2] at a1
          exact (Option.some.inj a1).symm
        | none => rw [T2o e2] at hy; exact absurd (fO e2 hy) (ol.off i x hx)
      | none =>
        rw [T2o e] at hx
        cases e2 : posOf js k with
        | some i2 => rw [T2i e2] at hy; exact absurd (fO e hx) (ol.off i2 x hy)
        | none => rw [T2o e2] at hy; exact st.dis j k x hx hy
    · cases e : posOf js j with
      | some i => rw [T2i e]; exact ol.nd i
      | none => rw [T2o e]; exact st.nd j
    · rw [lb] at hj
      cases e : posOf js j with
      | some i =>
        obtain ⟨s, g1, g2⟩ := hat i j (posOf_some e)
        rw [List.getElem?_eq_none hj] at g2
        cases g2
      | none => rw [T2o e]; exact st.out j hj
    · cases e : posOf js j with
      | none =>
        rw [bo j e] at hs
        obtain ⟨o, h1, h2⟩ := st.sl j s hs
        rw [T2o e]
        exact ⟨o, h1, h2.mv vis fun x hx => fr x (fO e hx)⟩
      | some i =>
        have e1 := posOf_some e
        have il : i < js.length := (List.getElem?_eq_some_iff.mp e1).1
        have hsi : ss'[i]? = some (ss'[i]'(by rw [ol.ls]; exact il)) := List.getElem?_eq_getElem _
        have hvi : vs0[i]? = some (vs0[i]'(by omega)) := List.getElem?_eq_getElem _
        obtain ⟨s', b1, b2⟩ := bi i j _ e1 hsi
        rw [hs] at b2
        cases b2
        have ow := ol.own i _ _ hvi hsi
        rw [T2i e]
        rw [eh2] at ow
        refine ⟨_, hvs i j _ e1 hvi, ?_⟩
        generalize ss'[i]'(by rw [ol.ls]; exact il) = z at b1 ow
        cases hr : ρ[j]? with
        | none => rw [hr] at b1; cases b1
        | some r0 =>
          rw [hr] at b1
          cases r0 with
          | own _ =>
            cases z with
            | own cs => cases b1; exact ⟨_, rfl, ow⟩
            | _ => cases b1
          | hal k h0 =>
            cases z with
            | hal _ h1 =>
              cases b1
              obtain ⟨o, c1, v, c2, _, c4⟩ := st.sl j _ hr
              rw [hvs i j _ e1 hvi] at c1
              cases c1
              cases c2
              exact ⟨_, rfl, ow, c4⟩
            | _ => cases b1
          | _ => cases b1
  refine ⟨F1, T1, vs0, ws, ss, ds, d, ss', rfl, fun x hx => ?_, ⟨hv, lt, off1, fun i k x hx hy => ?_, fun i => ?_, fun i hi => T1o (List.getElem?_eq_none hi), fun i v s h1 h2 => ?_⟩, by rw [eh]; exact ra, hg, fun v T' H' fr vis ol rv => ?_⟩
  · rw [hF1] at hx
    exact st.als x (hx.elim .inl fun ⟨j, _, h⟩ => .inr ⟨j, h⟩)
  · obtain ⟨j, e1, hx⟩ := in1 hx
    obtain ⟨j2, e2, hy⟩ := in1 hy
    have := st.dis j j2 x hx hy
    subst this
    exact jinj e1 e2
  · cases e : js[i]? with
    | none => rw [T1o e]; exact List.nodup_nil
    | some j => rw [T1i e]; exact st.nd j
  · have il : i < js.length := by have := (List.getElem?_eq_some_iff.mp h1).1; omega
    have e1 : js[i]? = some js[i] := List.getElem?_eq_getElem il
    obtain ⟨s2, g1, g2⟩ := hat i _ e1
    rw [h2] at g1
    cases g1
    rw [T1i e1, eh]
    cases hr : ρ[js[i]]? with
    | none => rw [hr] at g2; cases g2
    | some r0 =>
      rw [hr] at g2
      obtain ⟨o, c1, c2⟩ := st.sl _ _ hr
      rw [hvs i _ _ e1 h1] at c1
      cases c1
      cases r0 with
      | own cs =>
        cases g2; obtain ⟨v', e, ow⟩ := c2; cases e; exact ow
      | _ => cases g2
  · obtain ⟨T2, st2, s2, ev⟩ := back T' H' fr vis ol
    exact q v T2 H' st2 s2 (by rw [← hid_eq ev]; exact rv)
theorem tagL_val {pn : Pn} {F : Hs} {T : Trs} {H : Hp} {σ : L2.St} {ρ : Env} {j : Nat} {s : Sl} (st : StOk pn F T H σ ρ) (h : tagL ρ[j]? = some s) : ∃ v, σ[j]? = some (some v) := by
  cases hr : ρ[j]? with
  | none => rw [hr] at h; cases h
  | some r0 =>
    rw [hr] at h
    obtain ⟨o, c1, c2⟩ := st.sl _ _ hr
    cases r0 with
    | own cs => obtain ⟨v, e, _⟩ := c2; cases e; exact ⟨v, c1⟩
    | _ => cases h
theorem valsL_of {pn : Pn} {F : Hs} {T : Trs} {H : Hp} {σ : L2.St} {ρ : Env} (st : StOk pn F T H σ ρ) : ∀ {js : List Nat} {ss : List Sl}, tagsL ρ js = some ss → ∃ vs : List V, vs.length = js.length ∧ ∀ (k j : Nat) (v : V), js[k]? = some j → vs[k]? = some v → σ[j]? = some (some v)
  | [], _, _ => ⟨[], rfl, fun _ _ _ h => nomatch h⟩
  | a :: r, ss, h => by
    obtain ⟨s, h1, h⟩ := bind_some h
    obtain ⟨ss1, h2, rfl⟩ := Option.map_eq_some_iff.mp h
    obtain ⟨v, hv⟩ := tagL_val st h1
    obtain ⟨vs, l, f⟩ := valsL_of st h2
    refine ⟨v :: vs, by simp [l], fun k j w g1 g2 => ?_⟩
    cases k with
    | zero => cases g1; cases g2; exact hv
    | succ k => exact f k j w (by simpa using g1) (by simpa using g2)
def wCallC (js : List Nat) (g : List Sl → List PD → Option (PD × List Sl)) (x : XE) : XW := fun ρ => (x (mk ρ)).bind fun d => (tagsL ρ js).bind fun ss => (g ss [d]).bind fun y => (backs ρ js y.2).bind fun ρ' => some (y.1, ρ')
theorem sw_callC {js : List Nat} {g : List Sl → List PD → Option (PD × List Sl)} {te : TE} {x : XE} (nd : js.Nodup) (hx : SE te x) : SW (tCall (spC js.length g) [] E0 (tCons te (tVsL js tNil))) (wCallC js g x) := fun pn F T H σ ρ d ρ' st e Q q => by
  obtain ⟨d0, h0, e⟩ := bind_some e
  obtain ⟨ss, h2, e⟩ := bind_some e
  obtain ⟨⟨d1, ss'⟩, h3, e⟩ := bind_some e
  obtain ⟨ρ2, h4, e⟩ := bind_some e
  cases e
  obtain ⟨vs, lv, hv⟩ := valsL_of st h2
  refine hx _ _ h0 (SF F T) σ H st.als st.mkd _ fun w H1 e1 rw => ?_
  have st1 := st.ex e1
  refine tVsL_ok (vs := vs) lv hv ?_
  show spC js.length g ((w :: (vs ++ [])) ++ []) H1 Q E0
  rw [List.append_nil, List.append_nil]
  show spC js.length g ([w] ++ vs) H1 Q E0
  exact spC_of nd st1 h2 lv hv (.cons rw .nil) h3 h4 fun v T' H' st' s' rv => q v T' H' st' ((Stp.ex st.al e1).trans s') rv
end Uv

namespace Uv
open PySem PySem.Spec PyProof.Rows L2
open Evl (Ex)
variable [kk : KK]
def rIsXT (K : PySem.W.Frag) : List V → Hp → VK → Prop := fun xs H Q => ∃ (a C : Addr) (od : Option Addr) (tp : Addr) (Cs : List Addr) (b : Bool), xs = [.ref a, .ref tp] ∧ H a = some (ExH C od a) ∧ (∀ dd, od = some dd → ∃ fs, H dd = some (.xd fs)) ∧ ExcC K C ∧ H tp = some (.tup (Cs.map V.ref)) ∧ PySem.W.kitAny K (.ref C) (Cs.map Value.ref) = some b ∧ Q (.bl b) H
theorem call_isXT {X : Cx} : CallR X (.builtin "isinstance") (rIsXT X.K) := by
  intro pins s σ H xs us Q I r h
  obtain ⟨a, C, od, tp, Cs, b, rfl, ha, hd, hC, hT, e, q⟩ := h
  cases r with
  | cons rx rr =>
    cases rr with
    | cons rt rr =>
      cases rr
      cases rx
      cases rt
      obtain ⟨ox, oo, J⟩ := exh_at I ha hd
      obtain ⟨_, its, rv, o, h1, h2, n, h3⟩ := (show ObjOk X.prog X.w H s.heap tp (.tup (Cs.map V.ref)) from I.hok tp _ hT)
      have e3 := vals_refsE rv
      subst e3
      obtain ⟨oc, od, dt, sl⟩ := o
      simp only at h2 h3
      subst h2 h3
      exact PySem.W.kia_tup (kitx_exD hC) I.kIn J h1 e (fun z => nomatch z) fun tk => ⟨.bl b, H, I.kept (t' := tk) fun _ _ z => z, rfl, q⟩
def isX4 (t1 t2 t3 t4 : Nat → Option Bool) (d : PD) : Option PD := (isHeld d).bind fun p => (t1 p.1).bind fun b1 => (t2 p.1).bind fun b2 => (t3 p.1).bind fun b3 => (t4 p.1).bind fun b4 => some (.bool (b1 || b2 || b3 || b4))
theorem se_isX4 {t1 t2 t3 t4 : Nat → Option Bool} {c1 c2 c3 c4 : Addr} {te : TE} {x : XE} (hE : ∀ n C, kk.cl n = some C → ExcC K C)
    (h1 : ∀ n C b, kk.cl n = some C → t1 n = some b → PySem.W.kitOne K (.ref C) (.ref c1) = some b) (h2 : ∀ n C b, kk.cl n = some C → t2 n = some b → PySem.W.kitOne K (.ref C) (.ref c2) = some b)
    (h3 : ∀ n C b, kk.cl n = some C → t3 n = some b → PySem.W.kitOne K (.ref C) (.ref c3) = some b) (h4 : ∀ n C b, kk.cl n = some C → t4 n = some b → PySem.W.kitOne K (.ref C) (.ref c4) = some b) (hx : SE te x) :
    SE (tCB (rIsXT K) (tCons te (tCons (tTup (tCons (tC (.ref c1)) (tCons (tC (.ref c2)) (tCons (tC (.ref c3)) (tCons (tC (.ref c4)) tNil))))) tNil))) (xUn (isX4 t1 t2 t3 t4) x) := fun ρ d e S σ H al en Q q => by
  obtain ⟨d0, k0, e⟩ := bind_some e
  obtain ⟨⟨n, es⟩, k1, e⟩ := bind_some e
  obtain ⟨b1, g1, e⟩ := bind_some e
  obtain ⟨b2, g2, e⟩ := bind_some e
  obtain ⟨b3, g3, e⟩ := bind_some e
  obtain ⟨b4, g4, e⟩ := bind_some e
  cases e
  refine hx ρ _ k0 S σ H al en _ fun v H1 e1 rv => ?_
  obtain ⟨a, C, od, xs, rfl, j1, j2, j3, j4⟩ := rp_held rv k1
  refine ⟨by show 4 ≤ sizeLine; decide, fun p hp => ?_⟩
  have e2 := Ex.new (o := .tup [V.ref c1, V.ref c2, V.ref c3, V.ref c4]) hp
  refine ⟨a, C, od, p, [c1, c2, c3, c4], b1 || b2 || b3 || b4, rfl, e2 _ _ (hid_le _ _ j2), fun dd ed => (let ⟨gs, g⟩ := dc_xd j3 dd ed; ⟨gs, e2 _ _ (hid_le _ _ g)⟩), hE n C j1, upd_same, ?_, q _ _ (e1.trans e2) (.bl _)⟩
  refine kitAny_cons (h1 n C b1 j1 g1) (fun hb => ?_) fun hb => by rw [hb]; rfl
  rw [hb, Bool.false_or]
  refine kitAny_cons (h2 n C b2 j1 g2) (fun hb => ?_) fun hb => by rw [hb]; rfl
  rw [hb, Bool.false_or]
  refine kitAny_cons (h3 n C b3 j1 g3) (fun hb => ?_) fun hb => by rw [hb]; rfl
  rw [hb, Bool.false_or]
  refine kitAny_cons (h4 n C b4 j1 g4) (fun hb => ?_) fun hb => by rw [hb]
  rw [hb]
  exact kitAny_nil
theorem sez_call1 {W : WX} {te : TE} {x : XE} {f : List PD → Option PD} (hx : SEZ W te x) : SEZ W (tCall (spF f) [] E0 (tCons te tNil)) (xCBz f x) := fun ρ d h S σ H al en Q qx q => by
  obtain ⟨y, h1, h⟩ := bind_some h
  refine hx ρ y h1 S σ H al en _ (fun n es i C od H2 e2 ea => ?_) fun i v H1 e1 rv => ?_
  · rw [if_pos (by rw [i]; rfl)] at h
    cases h
    exact qx n es i C od H2 e2 ea
  · rw [if_neg (by rw [i]; exact fun z => nomatch z)] at h
    exact ⟨S, [y], d, al.ex e1, by rw [List.append_nil]; exact .cons rv .nil, h, fun v2 H2 e2 r2 => q (rp_noexz r2) v2 H2 (e1.trans e2) r2⟩
def xLstZ (c : Str) (z : XE) : XE := fun ρ => (z ρ).bind fun d => if (isExz d).isSome = true then some d else some (.list [.str c, d])
theorem sez_lstZ {W : WX} {c : Str} {tz : TE} {z : XE} (hz : SEZ W tz z) : SEZ W (tLst (tCons (tC (.str c)) (tCons tz tNil))) (xLstZ c z) := fun ρ d h S σ H al en Q qx q => by
  obtain ⟨y, h1, h⟩ := bind_some h
  refine hz ρ y h1 S σ H al en _ (fun n es i C od H2 e2 ea => ?_) fun i v H1 e1 rv => ⟨by show 2 ≤ sizeLine; decide, fun p hp => ?_⟩
  · rw [if_pos (by rw [i]; rfl)] at h
    cases h
    exact qx n es i C od H2 e2 ea
  · rw [if_neg (by rw [i]; exact fun z => nomatch z)] at h
    cases h
    have e2 := Ex.new (o := .lst [.str c, v]) hp
    exact q rfl _ _ (e1.trans e2) (.lst (new_ok (al.ex e1) hp) (.cons (.str c) (.cons (rv.ex (hid_ex e2)) .nil)))
end Uv

namespace Uv
open PySem PySem.Spec PyProof.Rows L2
def Tag {α : Type} (x : α) : Type := Unit
def tag {α : Type} (x : α) : Tag x := ()
def wp {α : Type} (o : Option α) {Q : α → Prop} (_ : Tag Q) : Prop := ∃ a, o = some a ∧ Q a
@[simp] theorem wp_some {α : Type} {a : α} {Q : α → Prop} : wp (some a) (tag Q) = Q a := propext ⟨fun ⟨b, e, q⟩ => by cases e; exact q, fun q => ⟨a, rfl, q⟩⟩
@[simp] theorem wp_none {α : Type} {Q : α → Prop} : wp none (tag Q) = False := propext ⟨fun ⟨b, e, q⟩ => (nomatch e), fun q => q.elim⟩
@[simp] theorem wp_bind {α β : Type} {o : Option α} {f : α → Option β} {Q : β → Prop} : wp (o.bind f) (tag Q) = wp o (tag fun a => wp (f a) (tag Q)) := propext (by
  cases o with
  | none => simp
  | some a => simp)
theorem wp_mono {α : Type} {o : Option α} {Q R : α → Prop} (h : wp o (tag Q)) (hq : ∀ a, Q a → R a) : wp o (tag R) := let ⟨a, e, q⟩ := h; ⟨a, e, hq a q⟩
theorem wp_eq {α : Type} {o : Option α} {a : α} : wp o (tag fun x => x = a) ↔ o = some a := ⟨fun ⟨b, e, q⟩ => by rw [e, q], fun e => ⟨a, e, rfl⟩⟩
def alt {α : Type} (b : Bool) {x y : Option α} (_ : Tag x) (_ : Tag y) : Option α := if b = true then x else y
@[simp] theorem alt_t {α : Type} {x y : Option α} : alt true (tag x) (tag y) = x := (rfl)
@[simp] theorem alt_f {α : Type} {x y : Option α} : alt false (tag x) (tag y) = y := (rfl)
theorem wp_alt {α : Type} {b : Bool} {x y : Option α} {Q : α → Prop} (h1 : b = true → wp x (tag Q)) (h2 : b = false → wp y (tag Q)) : wp (alt b (tag x) (tag y)) (tag Q) := by cases b; exact h2 rfl; exact h1 rfl
theorem wp_altd {α : Type} {c : Prop} [Decidable c] {x y : Option α} {Q : α → Prop} (h1 : c → wp x (tag Q)) (h2 : ¬ c → wp y (tag Q)) : wp (alt (decide c) (tag x) (tag y)) (tag Q) := wp_alt (fun h => h1 (of_decide_eq_true h)) (fun h => h2 (of_decide_eq_false h))
def orO (b : Bool) (x : Option Bool) : Option Bool := if b = true then some true else x
def andO (b : Bool) (x : Option Bool) : Option Bool := if b = true then x else some false
def orV (b : Bool) (x : Option PD) : Option PD := if b = true then some (.bool true) else x
def andV (b : Bool) (x : Option PD) : Option PD := if b = true then x else some (.bool false)
@[simp] theorem orO_s {b c : Bool} : orO b (some c) = some (b || c) := by cases b <;> rfl
@[simp] theorem andO_s {b c : Bool} : andO b (some c) = some (b && c) := by cases b <;> rfl
@[simp] theorem orV_s {b c : Bool} : orV b (some (.bool c)) = some (.bool (b || c)) := by cases b <;> rfl
@[simp] theorem andV_s {b c : Bool} : andV b (some (.bool c)) = some (.bool (b && c)) := by cases b <;> rfl
@[simp] theorem orO_t {x : Option Bool} : orO true x = some true := (rfl)
@[simp] theorem orO_f {x : Option Bool} : orO false x = x := (rfl)
@[simp] theorem andO_t {x : Option Bool} : andO true x = x := (rfl)
@[simp] theorem andO_f {x : Option Bool} : andO false x = some false := (rfl)
@[simp] theorem orV_t {x : Option PD} : orV true x = some (.bool true) := (rfl)
@[simp] theorem orV_f {x : Option PD} : orV false x = x := (rfl)
@[simp] theorem andV_t {x : Option PD} : andV true x = x := (rfl)
@[simp] theorem andV_f {x : Option PD} : andV false x = some (.bool false) := (rfl)
noncomputable def grd {α : Type} (c : Prop) (x : Option α) : Option α := open Classical in if c then x else none
theorem grd_ite {α : Type} {c : Prop} [Decidable c] {x : Option α} : (if c then x else none) = grd c x := by
  unfold grd
  by_cases h : c
  · rw [if_pos h, if_pos h]
  · rw [if_neg h, if_neg h]
theorem grd_pos {α : Type} {c : Prop} {x : Option α} (h : c) : grd c x = x := if_pos h
theorem grd_iff {α : Type} {c c' : Prop} {x : Option α} (h : c ↔ c') : grd c x = grd c' x := by rw [propext h]
@[simp] theorem grd_true {α : Type} {x : Option α} : grd True x = x := grd_pos trivial
@[simp] theorem wp_grd {α : Type} {c : Prop} {x : Option α} {Q : α → Prop} : wp (grd c x) (tag Q) = (c ∧ wp x (tag Q)) := by
  by_cases h : c
  · rw [grd_pos h]; simp [h]
  · unfold grd; rw [if_neg h]; simp [h]
@[simp] theorem bind_some' {α β : Type} {x : α} {f : α → Option β} : (some x).bind f = f x := (rfl)
def seqK (y : XS) : Out → Option Out
  | .nxt ρ => y ρ
  | o => some o
@[simp] theorem q_sSeq {x y : XS} {ρ : Env} : sSeq x y ρ = (x ρ).bind (seqK y) := by
  unfold sSeq
  congr 1
@[simp] theorem seqK_nxt {y : XS} {ρ : Env} : seqK y (.nxt ρ) = y ρ := (rfl)
@[simp] theorem seqK_ret {y : XS} {d : PD} {ρ : Env} : seqK y (.ret d ρ) = some (.ret d ρ) := (rfl)
@[simp] theorem seqK_retO {y : XS} {d : List Cel} {ρ : Env} : seqK y (.retO d ρ) = some (.retO d ρ) := (rfl)
@[simp] theorem seqK_brk {y : XS} {ρ : Env} : seqK y (.brk ρ) = some (.brk ρ) := (rfl)
@[simp] theorem seqK_cnt {y : XS} {ρ : Env} : seqK y (.cnt ρ) = some (.cnt ρ) := (rfl)

structure In62 (j : Int) : Prop where
  lo : -(2 ^ 62) ≤ j
  hi : j < 2 ^ 62
structure In63 (j : Int) : Prop where
  lo : -(2 ^ 63) < j
  hi : j < 2 ^ 63
structure In63e (j : Int) : Prop where
  lo : -(2 ^ 63) ≤ j
  hi : j < 2 ^ 63
theorem in63e_nat {n : Nat} (h : n < 1000000000000) : In63e (n : Int) := ⟨by omega, by omega⟩
structure In64 (j : Int) : Prop where
  lo : -(2 ^ 64) < j
  hi : j < 2 ^ 64
theorem in62_nat {n : Nat} (h : n < 1000000000000) : In62 (n : Int) := ⟨by omega, by omega⟩
structure Dvr (j : Int) : Prop where
  lo : 0 < j
  hi : j < 2 ^ 64
@[simp] theorem in62_l0 : In62 0 = True := eq_true ⟨by decide, by decide⟩
@[simp] theorem in63_l0 : In63 0 = True := eq_true ⟨by decide, by decide⟩
@[simp] theorem in63e_l0 : In63e 0 = True := eq_true ⟨by decide, by decide⟩
@[simp] theorem in64_l0 : In64 0 = True := eq_true ⟨by decide, by decide⟩
@[simp] theorem in62_l1 : In62 1 = True := eq_true ⟨by decide, by decide⟩
@[simp] theorem in63_l1 : In63 1 = True := eq_true ⟨by decide, by decide⟩
@[simp] theorem in63e_l1 : In63e 1 = True := eq_true ⟨by decide, by decide⟩
@[simp] theorem in64_l1 : In64 1 = True := eq_true ⟨by decide, by decide⟩
@[simp] theorem dvr_l1 : Dvr 1 = True := eq_true ⟨by decide, by decide⟩
@[simp] theorem in62_l2 : In62 2 = True := eq_true ⟨by decide, by decide⟩
@[simp] theorem in63_l2 : In63 2 = True := eq_true ⟨by decide, by decide⟩
@[simp] theorem in63e_l2 : In63e 2 = True := eq_true ⟨by decide, by decide⟩
@[simp] theorem in64_l2 : In64 2 = True := eq_true ⟨by decide, by decide⟩
@[simp] theorem dvr_l2 : Dvr 2 = True := eq_true ⟨by decide, by decide⟩
@[simp] theorem in62_l3 : In62 3 = True := eq_true ⟨by decide, by decide⟩
@[simp] theorem in63_l3 : In63 3 = True := eq_true ⟨by decide, by decide⟩
@[simp] theorem in63e_l3 : In63e 3 = True := eq_true ⟨by decide, by decide⟩
@[simp] theorem in64_l3 : In64 3 = True := eq_true ⟨by decide, by decide⟩
@[simp] theorem dvr_l3 : Dvr 3 = True := eq_true ⟨by decide, by decide⟩
@[simp] theorem in62_l4 : In62 4 = True := eq_true ⟨by decide, by decide⟩
@[simp] theorem in63_l4 : In63 4 = True := eq_true ⟨by decide, by decide⟩
@[simp] theorem in63e_l4 : In63e 4 = True := eq_true ⟨by decide, by decide⟩
@[simp] theorem in64_l4 : In64 4 = True := eq_true ⟨by decide, by decide⟩
@[simp] theorem dvr_l4 : Dvr 4 = True := eq_true ⟨by decide, by decide⟩
@[simp] theorem in62_l5 : In62 5 = True := eq_true ⟨by decide, by decide⟩
@[simp] theorem in63_l5 : In63 5 = True := eq_true ⟨by decide, by decide⟩
@[simp] theorem in63e_l5 : In63e 5 = True := eq_true ⟨by decide, by decide⟩
@[simp] theorem in64_l5 : In64 5 = True := eq_true ⟨by decide, by decide⟩
@[simp] theorem dvr_l5 : Dvr 5 = True := eq_true ⟨by decide, by decide⟩
@[simp] theorem in62_l6 : In62 6 = True := eq_true ⟨by decide, by decide⟩
@[simp] theorem in63_l6 : In63 6 = True := eq_true ⟨by decide, by decide⟩
@[simp] theorem in63e_l6 : In63e 6 = True := eq_true ⟨by decide, by decide⟩
@[simp] theorem in64_l6 : In64 6 = True := eq_true ⟨by decide, by decide⟩
@[simp] theorem dvr_l6 : Dvr 6 = True := eq_true ⟨by decide, by decide⟩
@[simp] theorem in62_l7 : In62 7 = True := eq_true ⟨by decide, by decide⟩
@[simp] theorem in63_l7 : In63 7 = True := eq_true ⟨by decide, by decide⟩
@[simp] theorem in63e_l7 : In63e 7 = True := eq_true ⟨by decide, by decide⟩
@[simp] theorem in64_l7 : In64 7 = True := eq_true ⟨by decide, by decide⟩
@[simp] theorem dvr_l7 : Dvr 7 = True := eq_true ⟨by decide, by decide⟩
@[simp] theorem in62_l8 : In62 8 = True := eq_true ⟨by decide, by decide⟩
@[simp] theorem in63_l8 : In63 8 = True := eq_true ⟨by decide, by decide⟩
@[simp] theorem in63e_l8 : In63e 8 = True := eq_true ⟨by decide, by decide⟩
@[simp] theorem in64_l8 : In64 8 = True := eq_true ⟨by decide, by decide⟩
@[simp] theorem dvr_l8 : Dvr 8 = True := eq_true ⟨by decide, by decide⟩
@[simp] theorem in62_l9 : In62 9 = True := eq_true ⟨by decide, by decide⟩
@[simp] theorem in63_l9 : In63 9 = True := eq_true ⟨by decide, by decide⟩
@[simp] theorem in63e_l9 : In63e 9 = True := eq_true ⟨by decide, by decide⟩
@[simp] theorem in64_l9 : In64 9 = True := eq_true ⟨by decide, by decide⟩
@[simp] theorem dvr_l9 : Dvr 9 = True := eq_true ⟨by decide, by decide⟩
@[simp] theorem in62_l10 : In62 10 = True := eq_true ⟨by decide, by decide⟩
@[simp] theorem in63_l10 : In63 10 = True := eq_true ⟨by decide, by decide⟩
@[simp] theorem in63e_l10 : In63e 10 = True := eq_true ⟨by decide, by decide⟩
@[simp] theorem in64_l10 : In64 10 = True := eq_true ⟨by decide, by decide⟩
@[simp] theorem dvr_l10 : Dvr 10 = True := eq_true ⟨by decide, by decide⟩
@[simp] theorem in62_l11 : In62 11 = True := eq_true ⟨by decide, by decide⟩
@[simp] theorem in63_l11 : In63 11 = True := eq_true ⟨by decide, by decide⟩
@[simp] theorem in63e_l11 : In63e 11 = True := eq_true ⟨by decide, by decide⟩
@[simp] theorem in64_l11 : In64 11 = True := eq_true ⟨by decide, by decide⟩
@[simp] theorem dvr_l11 : Dvr 11 = True := eq_true ⟨by decide, by decide⟩
@[simp] theorem in62_l12 : In62 12 = True := eq_true ⟨by decide, by decide⟩
@[simp] theorem in63_l12 : In63 12 = True := eq_true ⟨by decide, by decide⟩
@[simp] theorem in63e_l12 : In63e 12 = True := eq_true ⟨by decide, by decide⟩
@[simp] theorem in64_l12 : In64 12 = True := eq_true ⟨by decide, by decide⟩
@[simp] theorem dvr_l12 : Dvr 12 = True := eq_true ⟨by decide, by decide⟩
@[simp] theorem in62_l13 : In62 13 = True := eq_true ⟨by decide, by decide⟩
@[simp] theorem in63_l13 : In63 13 = True := eq_true ⟨by decide, by decide⟩
@[simp] theorem in63e_l13 : In63e 13 = True := eq_true ⟨by decide, by decide⟩
@[simp] theorem in64_l13 : In64 13 = True := eq_true ⟨by decide, by decide⟩
@[simp] theorem dvr_l13 : Dvr 13 = True := eq_true ⟨by decide, by decide⟩
@[simp] theorem in62_l14 : In62 14 = True := eq_true ⟨by decide, by decide⟩
@[simp] theorem in63_l14 : In63 14 = True := eq_true ⟨by decide, by decide⟩
@[simp] theorem in63e_l14 : In63e 14 = True := eq_true ⟨by decide, by decide⟩
@[simp] theorem in64_l14 : In64 14 = True := eq_true ⟨by decide, by decide⟩
@[simp] theorem dvr_l14 : Dvr 14 = True := eq_true ⟨by decide, by decide⟩
@[simp] theorem in62_l15 : In62 15 = True := eq_true ⟨by decide, by decide⟩
@[simp] theorem in63_l15 : In63 15 = True := eq_true ⟨by decide, by decide⟩
@[simp] theorem in63e_l15 : In63e 15 = True := eq_true ⟨by decide, by decide⟩
@[simp] theorem in64_l15 : In64 15 = True := eq_true ⟨by decide, by decide⟩
@[simp] theorem dvr_l15 : Dvr 15 = True := eq_true ⟨by decide, by decide⟩
@[simp] theorem in62_l16 : In62 16 = True := eq_true ⟨by decide, by decide⟩
@[simp] theorem in63_l16 : In63 16 = True := eq_true ⟨by decide, by decide⟩
@[simp] theorem in63e_l16 : In63e 16 = True := eq_true ⟨by decide, by decide⟩
@[simp] theorem in64_l16 : In64 16 = True := eq_true ⟨by decide, by decide⟩
@[simp] theorem dvr_l16 : Dvr 16 = True := eq_true ⟨by decide, by decide⟩
@[simp] theorem in62_l17 : In62 17 = True := eq_true ⟨by decide, by decide⟩
@[simp] theorem in63_l17 : In63 17 = True := eq_true ⟨by decide, by decide⟩
@[simp] theorem in63e_l17 : In63e 17 = True := eq_true ⟨by decide, by decide⟩
@[simp] theorem in64_l17 : In64 17 = True := eq_true ⟨by decide, by decide⟩
@[simp] theorem dvr_l17 : Dvr 17 = True := eq_true ⟨by decide, by decide⟩
@[simp] theorem in62_l18 : In62 18 = True := eq_true ⟨by decide, by decide⟩
@[simp] theorem in63_l18 : In63 18 = True := eq_true ⟨by decide, by decide⟩
@[simp] theorem in63e_l18 : In63e 18 = True := eq_true ⟨by decide, by decide⟩
@[simp] theorem in64_l18 : In64 18 = True := eq_true ⟨by decide, by decide⟩
@[simp] theorem dvr_l18 : Dvr 18 = True := eq_true ⟨by decide, by decide⟩
@[simp] theorem in62_l19 : In62 19 = True := eq_true ⟨by decide, by decide⟩
@[simp] theorem in63_l19 : In63 19 = True := eq_true ⟨by decide, by decide⟩
@[simp] theorem in63e_l19 : In63e 19 = True := eq_true ⟨by decide, by decide⟩
@[simp] theorem in64_l19 : In64 19 = True := eq_true ⟨by decide, by decide⟩
@[simp] theorem dvr_l19 : Dvr 19 = True := eq_true ⟨by decide, by decide⟩
@[simp] theorem in62_l20 : In62 20 = True := eq_true ⟨by decide, by decide⟩
@[simp] theorem in63_l20 : In63 20 = True := eq_true ⟨by decide, by decide⟩
@[simp] theorem in63e_l20 : In63e 20 = True := eq_true ⟨by decide, by decide⟩
@[simp] theorem in64_l20 : In64 20 = True := eq_true ⟨by decide, by decide⟩
@[simp] theorem dvr_l20 : Dvr 20 = True := eq_true ⟨by decide, by decide⟩
@[simp] theorem in62_l21 : In62 21 = True := eq_true ⟨by decide, by decide⟩
@[simp] theorem in63_l21 : In63 21 = True := eq_true ⟨by decide, by decide⟩
@[simp] theorem in63e_l21 : In63e 21 = True := eq_true ⟨by decide, by decide⟩
@[simp] theorem in64_l21 : In64 21 = True := eq_true ⟨by decide, by decide⟩
@[simp] theorem dvr_l21 : Dvr 21 = True := eq_true ⟨by decide, by decide⟩
@[simp] theorem in62_l22 : In62 22 = True := eq_true ⟨by decide, by decide⟩
@[simp] theorem in63_l22 : In63 22 = True := eq_true ⟨by decide, by decide⟩
@[simp] theorem in63e_l22 : In63e 22 = True := eq_true ⟨by decide, by decide⟩
@[simp] theorem in64_l22 : In64 22 = True := eq_true ⟨by decide, by decide⟩
@[simp] theorem dvr_l22 : Dvr 22 = True := eq_true ⟨by decide, by decide⟩
@[simp] theorem in62_l23 : In62 23 = True := eq_true ⟨by decide, by decide⟩
@[simp] theorem in63_l23 : In63 23 = True := eq_true ⟨by decide, by decide⟩
@[simp] theorem in63e_l23 : In63e 23 = True := eq_true ⟨by decide, by decide⟩
@[simp] theorem in64_l23 : In64 23 = True := eq_true ⟨by decide, by decide⟩
@[simp] theorem dvr_l23 : Dvr 23 = True := eq_true ⟨by decide, by decide⟩
@[simp] theorem in62_l24 : In62 24 = True := eq_true ⟨by decide, by decide⟩
@[simp] theorem in63_l24 : In63 24 = True := eq_true ⟨by decide, by decide⟩
@[simp] theorem in63e_l24 : In63e 24 = True := eq_true ⟨by decide, by decide⟩
@[simp] theorem in64_l24 : In64 24 = True := eq_true ⟨by decide, by decide⟩
@[simp] theorem dvr_l24 : Dvr 24 = True := eq_true ⟨by decide, by decide⟩
@[simp] theorem in62_l25 : In62 25 = True := eq_true ⟨by decide, by decide⟩
@[simp] theorem in63_l25 : In63 25 = True := eq_true ⟨by decide, by decide⟩
@[simp] theorem in63e_l25 : In63e 25 = True := eq_true ⟨by decide, by decide⟩
@[simp] theorem in64_l25 : In64 25 = True := eq_true ⟨by decide, by decide⟩
@[simp] theorem dvr_l25 : Dvr 25 = True := eq_true ⟨by decide, by decide⟩
@[simp] theorem in62_l26 : In62 26 = True := eq_true ⟨by decide, by decide⟩
@[simp] theorem in63_l26 : In63 26 = True := eq_true ⟨by decide, by decide⟩
@[simp] theorem in63e_l26 : In63e 26 = True := eq_true ⟨by decide, by decide⟩
@[simp] theorem in64_l26 : In64 26 = True := eq_true ⟨by decide, by decide⟩
@[simp] theorem dvr_l26 : Dvr 26 = True := eq_true ⟨by decide, by decide⟩
@[simp] theorem in62_l27 : In62 27 = True := eq_true ⟨by decide, by decide⟩
@[simp] theorem in63_l27 : In63 27 = True := eq_true ⟨by decide, by decide⟩
@[simp] theorem in63e_l27 : In63e 27 = True := eq_true ⟨by decide, by decide⟩
@[simp] theorem in64_l27 : In64 27 = True := eq_true ⟨by decide, by decide⟩
@[simp] theorem dvr_l27 : Dvr 27 = True := eq_true ⟨by decide, by decide⟩
@[simp] theorem in62_l28 : In62 28 = True := eq_true ⟨by decide, by decide⟩
@[simp] theorem in63_l28 : In63 28 = True := eq_true ⟨by decide, by decide⟩
@[simp] theorem in63e_l28 : In63e 28 = True := eq_true ⟨by decide, by decide⟩
@[simp] theorem in64_l28 : In64 28 = True := eq_true ⟨by decide, by decide⟩
@[simp] theorem dvr_l28 : Dvr 28 = True := eq_true ⟨by decide, by decide⟩
@[simp] theorem in62_l29 : In62 29 = True := eq_true ⟨by decide, by decide⟩
@[simp] theorem in63_l29 : In63 29 = True := eq_true ⟨by decide, by decide⟩
@[simp] theorem in63e_l29 : In63e 29 = True := eq_true ⟨by decide, by decide⟩
@[simp] theorem in64_l29 : In64 29 = True := eq_true ⟨by decide, by decide⟩
@[simp] theorem dvr_l29 : Dvr 29 = True := eq_true ⟨by decide, by decide⟩
@[simp] theorem in62_l30 : In62 30 = True := eq_true ⟨by decide, by decide⟩
@[simp] theorem in63_l30 : In63 30 = True := eq_true ⟨by decide, by decide⟩
@[simp] theorem in63e_l30 : In63e 30 = True := eq_true ⟨by decide, by decide⟩
@[simp] theorem in64_l30 : In64 30 = True := eq_true ⟨by decide, by decide⟩
@[simp] theorem dvr_l30 : Dvr 30 = True := eq_true ⟨by decide, by decide⟩
@[simp] theorem in62_l31 : In62 31 = True := eq_true ⟨by decide, by decide⟩
@[simp] theorem in63_l31 : In63 31 = True := eq_true ⟨by decide, by decide⟩
@[simp] theorem in63e_l31 : In63e 31 = True := eq_true ⟨by decide, by decide⟩
@[simp] theorem in64_l31 : In64 31 = True := eq_true ⟨by decide, by decide⟩
@[simp] theorem dvr_l31 : Dvr 31 = True := eq_true ⟨by decide, by decide⟩
@[simp] theorem in62_l32 : In62 32 = True := eq_true ⟨by decide, by decide⟩
@[simp] theorem in63_l32 : In63 32 = True := eq_true ⟨by decide, by decide⟩
@[simp] theorem in63e_l32 : In63e 32 = True := eq_true ⟨by decide, by decide⟩
@[simp] theorem in64_l32 : In64 32 = True := eq_true ⟨by decide, by decide⟩
@[simp] theorem dvr_l32 : Dvr 32 = True := eq_true ⟨by decide, by decide⟩
@[simp] theorem in62_l33 : In62 33 = True := eq_true ⟨by decide, by decide⟩
@[simp] theorem in63_l33 : In63 33 = True := eq_true ⟨by decide, by decide⟩
@[simp] theorem in63e_l33 : In63e 33 = True := eq_true ⟨by decide, by decide⟩
@[simp] theorem in64_l33 : In64 33 = True := eq_true ⟨by decide, by decide⟩
@[simp] theorem dvr_l33 : Dvr 33 = True := eq_true ⟨by decide, by decide⟩
@[simp] theorem in62_l34 : In62 34 = True := eq_true ⟨by decide, by decide⟩
@[simp] theorem in63_l34 : In63 34 = True := eq_true ⟨by decide, by decide⟩
@[simp] theorem in63e_l34 : In63e 34 = True := eq_true ⟨by decide, by decide⟩
@[simp] theorem in64_l34 : In64 34 = True := eq_true ⟨by decide, by decide⟩
@[simp] theorem dvr_l34 : Dvr 34 = True := eq_true ⟨by decide, by decide⟩
@[simp] theorem in62_l35 : In62 35 = True := eq_true ⟨by decide, by decide⟩
@[simp] theorem in63_l35 : In63 35 = True := eq_true ⟨by decide, by decide⟩
@[simp] theorem in63e_l35 : In63e 35 = True := eq_true ⟨by decide, by decide⟩
@[simp] theorem in64_l35 : In64 35 = True := eq_true ⟨by decide, by decide⟩
@[simp] theorem dvr_l35 : Dvr 35 = True := eq_true ⟨by decide, by decide⟩
@[simp] theorem in62_l36 : In62 36 = True := eq_true ⟨by decide, by decide⟩
@[simp] theorem in63_l36 : In63 36 = True := eq_true ⟨by decide, by decide⟩
@[simp] theorem in63e_l36 : In63e 36 = True := eq_true ⟨by decide, by decide⟩
@[simp] theorem in64_l36 : In64 36 = True := eq_true ⟨by decide, by decide⟩
@[simp] theorem dvr_l36 : Dvr 36 = True := eq_true ⟨by decide, by decide⟩
@[simp] theorem in62_l37 : In62 37 = True := eq_true ⟨by decide, by decide⟩
@[simp] theorem in63_l37 : In63 37 = True := eq_true ⟨by decide, by decide⟩
@[simp] theorem in63e_l37 : In63e 37 = True := eq_true ⟨by decide, by decide⟩
@[simp] theorem in64_l37 : In64 37 = True := eq_true ⟨by decide, by decide⟩
@[simp] theorem dvr_l37 : Dvr 37 = True := eq_true ⟨by decide, by decide⟩
@[simp] theorem in62_l38 : In62 38 = True := eq_true ⟨by decide, by decide⟩
@[simp] theorem in63_l38 : In63 38 = True := eq_true ⟨by decide, by decide⟩
@[simp] theorem in63e_l38 : In63e 38 = True := eq_true ⟨by decide, by decide⟩
@[simp] theorem in64_l38 : In64 38 = True := eq_true ⟨by decide, by decide⟩
@[simp] theorem dvr_l38 : Dvr 38 = True := eq_true ⟨by decide, by decide⟩
@[simp] theorem in62_l39 : In62 39 = True := eq_true ⟨by decide, by decide⟩
@[simp] theorem in63_l39 : In63 39 = True := eq_true ⟨by decide, by decide⟩
@[simp] theorem in63e_l39 : In63e 39 = True := eq_true ⟨by decide, by decide⟩
@[simp] theorem in64_l39 : In64 39 = True := eq_true ⟨by decide, by decide⟩
@[simp] theorem dvr_l39 : Dvr 39 = True := eq_true ⟨by decide, by decide⟩
@[simp] theorem in62_l40 : In62 40 = True := eq_true ⟨by decide, by decide⟩
@[simp] theorem in63_l40 : In63 40 = True := eq_true ⟨by decide, by decide⟩
@[simp] theorem in63e_l40 : In63e 40 = True := eq_true ⟨by decide, by decide⟩
@[simp] theorem in64_l40 : In64 40 = True := eq_true ⟨by decide, by decide⟩
@[simp] theorem dvr_l40 : Dvr 40 = True := eq_true ⟨by decide, by decide⟩
@[simp] theorem in62_l41 : In62 41 = True := eq_true ⟨by decide, by decide⟩
@[simp] theorem in63_l41 : In63 41 = True := eq_true ⟨by decide, by decide⟩
@[simp] theorem in63e_l41 : In63e 41 = True := eq_true ⟨by decide, by decide⟩
@[simp] theorem in64_l41 : In64 41 = True := eq_true ⟨by decide, by decide⟩
@[simp] theorem dvr_l41 : Dvr 41 = True := eq_true ⟨by decide, by decide⟩
@[simp] theorem in62_l42 : In62 42 = True := eq_true ⟨by decide, by decide⟩
@[simp] theorem in63_l42 : In63 42 = True := eq_true ⟨by decide, by decide⟩
@[simp] theorem in63e_l42 : In63e 42 = True := eq_true ⟨by decide, by decide⟩
@[simp] theorem in64_l42 : In64 42 = True := eq_true ⟨by decide, by decide⟩
@[simp] theorem dvr_l42 : Dvr 42 = True := eq_true ⟨by decide, by decide⟩
@[simp] theorem in62_l43 : In62 43 = True := eq_true ⟨by decide, by decide⟩
@[simp] theorem in63_l43 : In63 43 = True := eq_true ⟨by decide, by decide⟩
@[simp] theorem in63e_l43 : In63e 43 = True := eq_true ⟨by decide, by decide⟩
@[simp] theorem in64_l43 : In64 43 = True := eq_true ⟨by decide, by decide⟩
@[simp] theorem dvr_l43 : Dvr 43 = True := eq_true ⟨by decide, by decide⟩
@[simp] theorem in62_l44 : In62 44 = True := eq_true ⟨by decide, by decide⟩
@[simp] theorem in63_l44 : In63 44 = True := eq_true ⟨by decide, by decide⟩
@[simp] theorem in63e_l44 : In63e 44 = True := eq_true ⟨by decide, by decide⟩
@[simp] theorem in64_l44 : In64 44 = True := eq_true ⟨by decide, by decide⟩
@[simp] theorem dvr_l44 : Dvr 44 = True := eq_true ⟨by decide, by decide⟩
@[simp] theorem in62_l45 : In62 45 = True := eq_true ⟨by decide, by decide⟩
@[simp] theorem in63_l45 : In63 45 = True := eq_true ⟨by decide, by decide⟩
@[simp] theorem in63e_l45 : In63e 45 = True := eq_true ⟨by decide, by decide⟩
@[simp] theorem in64_l45 : In64 45 = True := eq_true ⟨by decide, by decide⟩
@[simp] theorem dvr_l45 : Dvr 45 = True := eq_true ⟨by decide, by decide⟩
@[simp] theorem in62_l46 : In62 46 = True := eq_true ⟨by decide, by decide⟩
@[simp] theorem in63_l46 : In63 46 = True := eq_true ⟨by decide, by decide⟩
@[simp] theorem in63e_l46 : In63e 46 = True := eq_true ⟨by decide, by decide⟩
@[simp] theorem in64_l46 : In64 46 = True := eq_true ⟨by decide, by decide⟩
@[simp] theorem dvr_l46 : Dvr 46 = True := eq_true ⟨by decide, by decide⟩
@[simp] theorem in62_l47 : In62 47 = True := eq_true ⟨by decide, by decide⟩
@[simp] theorem in63_l47 : In63 47 = True := eq_true ⟨by decide, by decide⟩
@[simp] theorem in63e_l47 : In63e 47 = True := eq_true ⟨by decide, by decide⟩
@[simp] theorem in64_l47 : In64 47 = True := eq_true ⟨by decide, by decide⟩
@[simp] theorem dvr_l47 : Dvr 47 = True := eq_true ⟨by decide, by decide⟩
@[simp] theorem in62_l48 : In62 48 = True := eq_true ⟨by decide, by decide⟩
@[simp] theorem in63_l48 : In63 48 = True := eq_true ⟨by decide, by decide⟩
@[simp] theorem in63e_l48 : In63e 48 = True := eq_true ⟨by decide, by decide⟩
@[simp] theorem in64_l48 : In64 48 = True := eq_true ⟨by decide, by decide⟩
@[simp] theorem dvr_l48 : Dvr 48 = True := eq_true ⟨by decide, by decide⟩
@[simp] theorem in62_l49 : In62 49 = True := eq_true ⟨by decide, by decide⟩
@[simp] theorem in63_l49 : In63 49 = True := eq_true ⟨by decide, by decide⟩
@[simp] theorem in63e_l49 : In63e 49 = True := eq_true ⟨by decide, by decide⟩
@[simp] theorem in64_l49 : In64 49 = True := eq_true ⟨by decide, by decide⟩
@[simp] theorem dvr_l49 : Dvr 49 = True := eq_true ⟨by decide, by decide⟩
@[simp] theorem in62_l50 : In62 50 = True := eq_true ⟨by decide, by decide⟩
@[simp] theorem in63_l50 : In63 50 = True := eq_true ⟨by decide, by decide⟩
@[simp] theorem in63e_l50 : In63e 50 = True := eq_true ⟨by decide, by decide⟩
@[simp] theorem in64_l50 : In64 50 = True := eq_true ⟨by decide, by decide⟩
@[simp] theorem dvr_l50 : Dvr 50 = True := eq_true ⟨by decide, by decide⟩
@[simp] theorem in62_l51 : In62 51 = True := eq_true ⟨by decide, by decide⟩
@[simp] theorem in63_l51 : In63 51 = True := eq_true ⟨by decide, by decide⟩
@[simp] theorem in63e_l51 : In63e 51 = True := eq_true ⟨by decide, by decide⟩
@[simp] theorem in64_l51 : In64 51 = True := eq_true ⟨by decide, by decide⟩
@[simp] theorem dvr_l51 : Dvr 51 = True := eq_true ⟨by decide, by decide⟩
@[simp] theorem in62_l52 : In62 52 = True := eq_true ⟨by decide, by decide⟩
@[simp] theorem in63_l52 : In63 52 = True := eq_true ⟨by decide, by decide⟩
@[simp] theorem in63e_l52 : In63e 52 = True := eq_true ⟨by decide, by decide⟩
@[simp] theorem in64_l52 : In64 52 = True := eq_true ⟨by decide, by decide⟩
@[simp] theorem dvr_l52 : Dvr 52 = True := eq_true ⟨by decide, by decide⟩
@[simp] theorem in62_l53 : In62 53 = True := eq_true ⟨by decide, by decide⟩
@[simp] theorem in63_l53 : In63 53 = True := eq_true ⟨by decide, by decide⟩
@[simp] theorem in63e_l53 : In63e 53 = True := eq_true ⟨by decide, by decide⟩
@[simp] theorem in64_l53 : In64 53 = True := eq_true ⟨by decide, by decide⟩
@[simp] theorem dvr_l53 : Dvr 53 = True := eq_true ⟨by decide, by decide⟩
@[simp] theorem in62_l54 : In62 54 = True := eq_true ⟨by decide, by decide⟩
@[simp] theorem in63_l54 : In63 54 = True := eq_true ⟨by decide, by decide⟩
@[simp] theorem in63e_l54 : In63e 54 = True := eq_true ⟨by decide, by decide⟩
@[simp] theorem in64_l54 : In64 54 = True := eq_true ⟨by decide, by decide⟩
@[simp] theorem dvr_l54 : Dvr 54 = True := eq_true ⟨by decide, by decide⟩
@[simp] theorem in62_l55 : In62 55 = True := eq_true ⟨by decide, by decide⟩
@[simp] theorem in63_l55 : In63 55 = True := eq_true ⟨by decide, by decide⟩
@[simp] theorem in63e_l55 : In63e 55 = True := eq_true ⟨by decide, by decide⟩
@[simp] theorem in64_l55 : In64 55 = True := eq_true ⟨by decide, by decide⟩
@[simp] theorem dvr_l55 : Dvr 55 = True := eq_true ⟨by decide, by decide⟩
@[simp] theorem in62_l56 : In62 56 = True := eq_true ⟨by decide, by decide⟩
@[simp] theorem in63_l56 : In63 56 = True := eq_true ⟨by decide, by decide⟩
@[simp] theorem in63e_l56 : In63e 56 = True := eq_true ⟨by decide, by decide⟩
@[simp] theorem in64_l56 : In64 56 = True := eq_true ⟨by decide, by decide⟩
@[simp] theorem dvr_l56 : Dvr 56 = True := eq_true ⟨by decide, by decide⟩
@[simp] theorem in62_l57 : In62 57 = True := eq_true ⟨by decide, by decide⟩
@[simp] theorem in63_l57 : In63 57 = True := eq_true ⟨by decide, by decide⟩
@[simp] theorem in63e_l57 : In63e 57 = True := eq_true ⟨by decide, by decide⟩
@[simp] theorem in64_l57 : In64 57 = True := eq_true ⟨by decide, by decide⟩
@[simp] theorem dvr_l57 : Dvr 57 = True := eq_true ⟨by decide, by decide⟩
@[simp] theorem in62_l58 : In62 58 = True := eq_true ⟨by decide, by decide⟩
@[simp] theorem in63_l58 : In63 58 = True := eq_true ⟨by decide, by decide⟩
@[simp] theorem in63e_l58 : In63e 58 = True := eq_true ⟨by decide, by decide⟩
@[simp] theorem in64_l58 : In64 58 = True := eq_true ⟨by decide, by decide⟩
@[simp] theorem dvr_l58 : Dvr 58 = True := eq_true ⟨by decide, by decide⟩
@[simp] theorem in62_l59 : In62 59 = True := eq_true ⟨by decide, by decide⟩
@[simp] theorem in63_l59 : In63 59 = True := eq_true ⟨by decide, by decide⟩
@[simp] theorem in63e_l59 : In63e 59 = True := eq_true ⟨by decide, by decide⟩
@[simp] theorem in64_l59 : In64 59 = True := eq_true ⟨by decide, by decide⟩
@[simp] theorem dvr_l59 : Dvr 59 = True := eq_true ⟨by decide, by decide⟩
@[simp] theorem in62_l60 : In62 60 = True := eq_true ⟨by decide, by decide⟩
@[simp] theorem in63_l60 : In63 60 = True := eq_true ⟨by decide, by decide⟩
@[simp] theorem in63e_l60 : In63e 60 = True := eq_true ⟨by decide, by decide⟩
@[simp] theorem in64_l60 : In64 60 = True := eq_true ⟨by decide, by decide⟩
@[simp] theorem dvr_l60 : Dvr 60 = True := eq_true ⟨by decide, by decide⟩
@[simp] theorem in62_l61 : In62 61 = True := eq_true ⟨by decide, by decide⟩
@[simp] theorem in63_l61 : In63 61 = True := eq_true ⟨by decide, by decide⟩
@[simp] theorem in63e_l61 : In63e 61 = True := eq_true ⟨by decide, by decide⟩
@[simp] theorem in64_l61 : In64 61 = True := eq_true ⟨by decide, by decide⟩
@[simp] theorem dvr_l61 : Dvr 61 = True := eq_true ⟨by decide, by decide⟩
@[simp] theorem in62_l62 : In62 62 = True := eq_true ⟨by decide, by decide⟩
@[simp] theorem in63_l62 : In63 62 = True := eq_true ⟨by decide, by decide⟩
@[simp] theorem in63e_l62 : In63e 62 = True := eq_true ⟨by decide, by decide⟩
@[simp] theorem in64_l62 : In64 62 = True := eq_true ⟨by decide, by decide⟩
@[simp] theorem dvr_l62 : Dvr 62 = True := eq_true ⟨by decide, by decide⟩
@[simp] theorem in62_l63 : In62 63 = True := eq_true ⟨by decide, by decide⟩
@[simp] theorem in63_l63 : In63 63 = True := eq_true ⟨by decide, by decide⟩
@[simp] theorem in63e_l63 : In63e 63 = True := eq_true ⟨by decide, by decide⟩
@[simp] theorem in64_l63 : In64 63 = True := eq_true ⟨by decide, by decide⟩
@[simp] theorem dvr_l63 : Dvr 63 = True := eq_true ⟨by decide, by decide⟩
@[simp] theorem in62_l64 : In62 64 = True := eq_true ⟨by decide, by decide⟩
@[simp] theorem in63_l64 : In63 64 = True := eq_true ⟨by decide, by decide⟩
@[simp] theorem in63e_l64 : In63e 64 = True := eq_true ⟨by decide, by decide⟩
@[simp] theorem in64_l64 : In64 64 = True := eq_true ⟨by decide, by decide⟩
@[simp] theorem dvr_l64 : Dvr 64 = True := eq_true ⟨by decide, by decide⟩
@[simp] theorem in62_l70 : In62 70 = True := eq_true ⟨by decide, by decide⟩
@[simp] theorem in63_l70 : In63 70 = True := eq_true ⟨by decide, by decide⟩
@[simp] theorem in63e_l70 : In63e 70 = True := eq_true ⟨by decide, by decide⟩
@[simp] theorem in64_l70 : In64 70 = True := eq_true ⟨by decide, by decide⟩
@[simp] theorem dvr_l70 : Dvr 70 = True := eq_true ⟨by decide, by decide⟩
@[simp] theorem in62_l200 : In62 200 = True := eq_true ⟨by decide, by decide⟩
@[simp] theorem in63_l200 : In63 200 = True := eq_true ⟨by decide, by decide⟩
@[simp] theorem in63e_l200 : In63e 200 = True := eq_true ⟨by decide, by decide⟩
@[simp] theorem in64_l200 : In64 200 = True := eq_true ⟨by decide, by decide⟩
@[simp] theorem dvr_l200 : Dvr 200 = True := eq_true ⟨by decide, by decide⟩
@[simp] theorem in62_l300 : In62 300 = True := eq_true ⟨by decide, by decide⟩
@[simp] theorem in63_l300 : In63 300 = True := eq_true ⟨by decide, by decide⟩
@[simp] theorem in63e_l300 : In63e 300 = True := eq_true ⟨by decide, by decide⟩
@[simp] theorem in64_l300 : In64 300 = True := eq_true ⟨by decide, by decide⟩
@[simp] theorem dvr_l300 : Dvr 300 = True := eq_true ⟨by decide, by decide⟩
@[simp] theorem in62_l400 : In62 400 = True := eq_true ⟨by decide, by decide⟩
@[simp] theorem in63_l400 : In63 400 = True := eq_true ⟨by decide, by decide⟩
@[simp] theorem in63e_l400 : In63e 400 = True := eq_true ⟨by decide, by decide⟩
@[simp] theorem in64_l400 : In64 400 = True := eq_true ⟨by decide, by decide⟩
@[simp] theorem dvr_l400 : Dvr 400 = True := eq_true ⟨by decide, by decide⟩
@[simp] theorem in62_l600 : In62 600 = True := eq_true ⟨by decide, by decide⟩
@[simp] theorem in63_l600 : In63 600 = True := eq_true ⟨by decide, by decide⟩
@[simp] theorem in63e_l600 : In63e 600 = True := eq_true ⟨by decide, by decide⟩
@[simp] theorem in64_l600 : In64 600 = True := eq_true ⟨by decide, by decide⟩
@[simp] theorem dvr_l600 : Dvr 600 = True := eq_true ⟨by decide, by decide⟩
@[simp] theorem in62_l700 : In62 700 = True := eq_true ⟨by decide, by decide⟩
@[simp] theorem in63_l700 : In63 700 = True := eq_true ⟨by decide, by decide⟩
@[simp] theorem in63e_l700 : In63e 700 = True := eq_true ⟨by decide, by decide⟩
@[simp] theorem in64_l700 : In64 700 = True := eq_true ⟨by decide, by decide⟩
@[simp] theorem dvr_l700 : Dvr 700 = True := eq_true ⟨by decide, by decide⟩
@[simp] theorem in62_l729 : In62 729 = True := eq_true ⟨by decide, by decide⟩
@[simp] theorem in63_l729 : In63 729 = True := eq_true ⟨by decide, by decide⟩
@[simp] theorem in63e_l729 : In63e 729 = True := eq_true ⟨by decide, by decide⟩
@[simp] theorem in64_l729 : In64 729 = True := eq_true ⟨by decide, by decide⟩
@[simp] theorem dvr_l729 : Dvr 729 = True := eq_true ⟨by decide, by decide⟩
@[simp] theorem in62_l924 : In62 924 = True := eq_true ⟨by decide, by decide⟩
@[simp] theorem in63_l924 : In63 924 = True := eq_true ⟨by decide, by decide⟩
@[simp] theorem in63e_l924 : In63e 924 = True := eq_true ⟨by decide, by decide⟩
@[simp] theorem in64_l924 : In64 924 = True := eq_true ⟨by decide, by decide⟩
@[simp] theorem dvr_l924 : Dvr 924 = True := eq_true ⟨by decide, by decide⟩
@[simp] theorem in62_l1000 : In62 1000 = True := eq_true ⟨by decide, by decide⟩
@[simp] theorem in63_l1000 : In63 1000 = True := eq_true ⟨by decide, by decide⟩
@[simp] theorem in63e_l1000 : In63e 1000 = True := eq_true ⟨by decide, by decide⟩
@[simp] theorem in64_l1000 : In64 1000 = True := eq_true ⟨by decide, by decide⟩
@[simp] theorem dvr_l1000 : Dvr 1000 = True := eq_true ⟨by decide, by decide⟩
@[simp] theorem in62_l3000 : In62 3000 = True := eq_true ⟨by decide, by decide⟩
@[simp] theorem in63_l3000 : In63 3000 = True := eq_true ⟨by decide, by decide⟩
@[simp] theorem in63e_l3000 : In63e 3000 = True := eq_true ⟨by decide, by decide⟩
@[simp] theorem in64_l3000 : In64 3000 = True := eq_true ⟨by decide, by decide⟩
@[simp] theorem dvr_l3000 : Dvr 3000 = True := eq_true ⟨by decide, by decide⟩
@[simp] theorem in62_l4096 : In62 4096 = True := eq_true ⟨by decide, by decide⟩
@[simp] theorem in63_l4096 : In63 4096 = True := eq_true ⟨by decide, by decide⟩
@[simp] theorem in63e_l4096 : In63e 4096 = True := eq_true ⟨by decide, by decide⟩
@[simp] theorem in64_l4096 : In64 4096 = True := eq_true ⟨by decide, by decide⟩
@[simp] theorem dvr_l4096 : Dvr 4096 = True := eq_true ⟨by decide, by decide⟩
@[simp] theorem in62_l7919 : In62 7919 = True := eq_true ⟨by decide, by decide⟩
@[simp] theorem in63_l7919 : In63 7919 = True := eq_true ⟨by decide, by decide⟩
@[simp] theorem in63e_l7919 : In63e 7919 = True := eq_true ⟨by decide, by decide⟩
@[simp] theorem in64_l7919 : In64 7919 = True := eq_true ⟨by decide, by decide⟩
@[simp] theorem dvr_l7919 : Dvr 7919 = True := eq_true ⟨by decide, by decide⟩
@[simp] theorem in62_l10007 : In62 10007 = True := eq_true ⟨by decide, by decide⟩
@[simp] theorem in63_l10007 : In63 10007 = True := eq_true ⟨by decide, by decide⟩
@[simp] theorem in63e_l10007 : In63e 10007 = True := eq_true ⟨by decide, by decide⟩
@[simp] theorem in64_l10007 : In64 10007 = True := eq_true ⟨by decide, by decide⟩
@[simp] theorem dvr_l10007 : Dvr 10007 = True := eq_true ⟨by decide, by decide⟩
@[simp] theorem in62_l30011 : In62 30011 = True := eq_true ⟨by decide, by decide⟩
@[simp] theorem in63_l30011 : In63 30011 = True := eq_true ⟨by decide, by decide⟩
@[simp] theorem in63e_l30011 : In63e 30011 = True := eq_true ⟨by decide, by decide⟩
@[simp] theorem in64_l30011 : In64 30011 = True := eq_true ⟨by decide, by decide⟩
@[simp] theorem dvr_l30011 : Dvr 30011 = True := eq_true ⟨by decide, by decide⟩
@[simp] theorem in62_l40503 : In62 40503 = True := eq_true ⟨by decide, by decide⟩
@[simp] theorem in63_l40503 : In63 40503 = True := eq_true ⟨by decide, by decide⟩
@[simp] theorem in63e_l40503 : In63e 40503 = True := eq_true ⟨by decide, by decide⟩
@[simp] theorem in64_l40503 : In64 40503 = True := eq_true ⟨by decide, by decide⟩
@[simp] theorem dvr_l40503 : Dvr 40503 = True := eq_true ⟨by decide, by decide⟩
@[simp] theorem in62_l40692 : In62 40692 = True := eq_true ⟨by decide, by decide⟩
@[simp] theorem in63_l40692 : In63 40692 = True := eq_true ⟨by decide, by decide⟩
@[simp] theorem in63e_l40692 : In63e 40692 = True := eq_true ⟨by decide, by decide⟩
@[simp] theorem in64_l40692 : In64 40692 = True := eq_true ⟨by decide, by decide⟩
@[simp] theorem dvr_l40692 : Dvr 40692 = True := eq_true ⟨by decide, by decide⟩
@[simp] theorem in62_l48271 : In62 48271 = True := eq_true ⟨by decide, by decide⟩
@[simp] theorem in63_l48271 : In63 48271 = True := eq_true ⟨by decide, by decide⟩
@[simp] theorem in63e_l48271 : In63e 48271 = True := eq_true ⟨by decide, by decide⟩
@[simp] theorem in64_l48271 : In64 48271 = True := eq_true ⟨by decide, by decide⟩
@[simp] theorem dvr_l48271 : Dvr 48271 = True := eq_true ⟨by decide, by decide⟩
@[simp] theorem in62_l69621 : In62 69621 = True := eq_true ⟨by decide, by decide⟩
@[simp] theorem in63_l69621 : In63 69621 = True := eq_true ⟨by decide, by decide⟩
@[simp] theorem in63e_l69621 : In63e 69621 = True := eq_true ⟨by decide, by decide⟩
@[simp] theorem in64_l69621 : In64 69621 = True := eq_true ⟨by decide, by decide⟩
@[simp] theorem dvr_l69621 : Dvr 69621 = True := eq_true ⟨by decide, by decide⟩
@[simp] theorem in62_l1000000 : In62 1000000 = True := eq_true ⟨by decide, by decide⟩
@[simp] theorem in63_l1000000 : In63 1000000 = True := eq_true ⟨by decide, by decide⟩
@[simp] theorem in63e_l1000000 : In63e 1000000 = True := eq_true ⟨by decide, by decide⟩
@[simp] theorem in64_l1000000 : In64 1000000 = True := eq_true ⟨by decide, by decide⟩
@[simp] theorem dvr_l1000000 : Dvr 1000000 = True := eq_true ⟨by decide, by decide⟩
@[simp] theorem in62_l1000003 : In62 1000003 = True := eq_true ⟨by decide, by decide⟩
@[simp] theorem in63_l1000003 : In63 1000003 = True := eq_true ⟨by decide, by decide⟩
@[simp] theorem in63e_l1000003 : In63e 1000003 = True := eq_true ⟨by decide, by decide⟩
@[simp] theorem in64_l1000003 : In64 1000003 = True := eq_true ⟨by decide, by decide⟩
@[simp] theorem dvr_l1000003 : Dvr 1000003 = True := eq_true ⟨by decide, by decide⟩
@[simp] theorem in62_l2147483587 : In62 2147483587 = True := eq_true ⟨by decide, by decide⟩
@[simp] theorem in63_l2147483587 : In63 2147483587 = True := eq_true ⟨by decide, by decide⟩
@[simp] theorem in63e_l2147483587 : In63e 2147483587 = True := eq_true ⟨by decide, by decide⟩
@[simp] theorem in64_l2147483587 : In64 2147483587 = True := eq_true ⟨by decide, by decide⟩
@[simp] theorem dvr_l2147483587 : Dvr 2147483587 = True := eq_true ⟨by decide, by decide⟩
@[simp] theorem in62_l2147483629 : In62 2147483629 = True := eq_true ⟨by decide, by decide⟩
@[simp] theorem in63_l2147483629 : In63 2147483629 = True := eq_true ⟨by decide, by decide⟩
@[simp] theorem in63e_l2147483629 : In63e 2147483629 = True := eq_true ⟨by decide, by decide⟩
@[simp] theorem in64_l2147483629 : In64 2147483629 = True := eq_true ⟨by decide, by decide⟩
@[simp] theorem dvr_l2147483629 : Dvr 2147483629 = True := eq_true ⟨by decide, by decide⟩
@[simp] theorem in62_l2147483647 : In62 2147483647 = True := eq_true ⟨by decide, by decide⟩
@[simp] theorem in63_l2147483647 : In63 2147483647 = True := eq_true ⟨by decide, by decide⟩
@[simp] theorem in63e_l2147483647 : In63e 2147483647 = True := eq_true ⟨by decide, by decide⟩
@[simp] theorem in64_l2147483647 : In64 2147483647 = True := eq_true ⟨by decide, by decide⟩
@[simp] theorem dvr_l2147483647 : Dvr 2147483647 = True := eq_true ⟨by decide, by decide⟩
@[simp] theorem in62_l100000000000 : In62 100000000000 = True := eq_true ⟨by decide, by decide⟩
@[simp] theorem in63_l100000000000 : In63 100000000000 = True := eq_true ⟨by decide, by decide⟩
@[simp] theorem in63e_l100000000000 : In63e 100000000000 = True := eq_true ⟨by decide, by decide⟩
@[simp] theorem in64_l100000000000 : In64 100000000000 = True := eq_true ⟨by decide, by decide⟩
@[simp] theorem dvr_l100000000000 : Dvr 100000000000 = True := eq_true ⟨by decide, by decide⟩
@[simp] theorem in62_l1000000000000 : In62 1000000000000 = True := eq_true ⟨by decide, by decide⟩
@[simp] theorem in63_l1000000000000 : In63 1000000000000 = True := eq_true ⟨by decide, by decide⟩
@[simp] theorem in63e_l1000000000000 : In63e 1000000000000 = True := eq_true ⟨by decide, by decide⟩
@[simp] theorem in64_l1000000000000 : In64 1000000000000 = True := eq_true ⟨by decide, by decide⟩
@[simp] theorem dvr_l1000000000000 : Dvr 1000000000000 = True := eq_true ⟨by decide, by decide⟩
@[simp] theorem in62_l10000000000000 : In62 10000000000000 = True := eq_true ⟨by decide, by decide⟩
@[simp] theorem in63_l10000000000000 : In63 10000000000000 = True := eq_true ⟨by decide, by decide⟩
@[simp] theorem in63e_l10000000000000 : In63e 10000000000000 = True := eq_true ⟨by decide, by decide⟩
@[simp] theorem in64_l10000000000000 : In64 10000000000000 = True := eq_true ⟨by decide, by decide⟩
@[simp] theorem dvr_l10000000000000 : Dvr 10000000000000 = True := eq_true ⟨by decide, by decide⟩
@[simp] theorem in62_l100000000000000 : In62 100000000000000 = True := eq_true ⟨by decide, by decide⟩
@[simp] theorem in63_l100000000000000 : In63 100000000000000 = True := eq_true ⟨by decide, by decide⟩
@[simp] theorem in63e_l100000000000000 : In63e 100000000000000 = True := eq_true ⟨by decide, by decide⟩
@[simp] theorem in64_l100000000000000 : In64 100000000000000 = True := eq_true ⟨by decide, by decide⟩
@[simp] theorem dvr_l100000000000000 : Dvr 100000000000000 = True := eq_true ⟨by decide, by decide⟩
@[simp] theorem in62_l1000000000000000 : In62 1000000000000000 = True := eq_true ⟨by decide, by decide⟩
@[simp] theorem in63_l1000000000000000 : In63 1000000000000000 = True := eq_true ⟨by decide, by decide⟩
@[simp] theorem in63e_l1000000000000000 : In63e 1000000000000000 = True := eq_true ⟨by decide, by decide⟩
@[simp] theorem in64_l1000000000000000 : In64 1000000000000000 = True := eq_true ⟨by decide, by decide⟩
@[simp] theorem dvr_l1000000000000000 : Dvr 1000000000000000 = True := eq_true ⟨by decide, by decide⟩
@[simp] theorem in62_l1000000000000000000 : In62 1000000000000000000 = True := eq_true ⟨by decide, by decide⟩
@[simp] theorem in63_l1000000000000000000 : In63 1000000000000000000 = True := eq_true ⟨by decide, by decide⟩
@[simp] theorem in63e_l1000000000000000000 : In63e 1000000000000000000 = True := eq_true ⟨by decide, by decide⟩
@[simp] theorem in64_l1000000000000000000 : In64 1000000000000000000 = True := eq_true ⟨by decide, by decide⟩
@[simp] theorem dvr_l1000000000000000000 : Dvr 1000000000000000000 = True := eq_true ⟨by decide, by decide⟩
def dats (ds : List PD) : List Cel := ds.map Cel.dat
@[simp] theorem dats_nil : dats [] = [] := (rfl)
@[simp] theorem dats_pd {ds : List PD} : (dats ds).map Cel.pd = ds := by unfold dats; rw [List.map_map, show Cel.pd ∘ Cel.dat = id from rfl, List.map_id]
@[simp] theorem dats_len {ds : List PD} : (dats ds).length = ds.length := by unfold dats; exact List.length_map ..
@[simp] theorem dats_app {ds es : List PD} : dats ds ++ dats es = dats (ds ++ es) := by unfold dats; exact List.map_append.symm
@[simp] theorem dats_app1 {ds : List PD} {d : PD} : dats ds ++ [Cel.dat d] = dats (ds ++ [d]) := by unfold dats; rw [List.map_append]; rfl
@[simp] theorem dats_set {ds : List PD} {d : PD} {i : Nat} : (dats ds).set i (Cel.dat d) = dats (ds.set i d) := by unfold dats; rw [List.map_set]
@[simp] theorem dats_erase {ds : List PD} {i : Nat} : (dats ds).eraseIdx i = dats (ds.eraseIdx i) := by
  unfold dats
  induction ds generalizing i with
  | nil => rfl
  | cons x xs ih => cases i with
    | zero => rfl
    | succ i => simp [ih]
@[simp] theorem dats_take {ds : List PD} {i : Nat} : (dats ds).take i = dats (ds.take i) := by unfold dats; rw [List.map_take]
@[simp] theorem dats_drop {ds : List PD} {i : Nat} : (dats ds).drop i = dats (ds.drop i) := by unfold dats; rw [List.map_drop]
abbrev natD (n : Nat) : PD := .int (n : Nat)
abbrev kk0 : KK := ⟨[], fun _ => none, fun _ => none, 0⟩
section
variable {ρ : Env} {v : VE}
@[simp] theorem q_mk_nil : mk [] = [] := (rfl)
@[simp] theorem q_mk_cons {s : Sl} {r : Env} : mk (s :: r) = s.mk :: mk r := (rfl)
@[simp] theorem q_vw_nil : vw [] = [] := (rfl)
@[simp] theorem q_vw_cons {s : Sl} {r : Env} : vw (s :: r) = s.vw :: vw r := (rfl)
@[simp] theorem q_mk_dat {d : PD} : (Sl.dat d).mk = some d := (rfl)
@[simp] theorem q_mk_un : Sl.un.mk = none := (rfl)
@[simp] theorem q_mk_own {cs : List Cel} : (Sl.own cs).mk = none := (rfl)
@[simp] theorem q_vw_dat {d : PD} : (Sl.dat d).vw = some d := (rfl)
@[simp] theorem q_vw_un : Sl.un.vw = none := (rfl)
@[simp] theorem q_vw_own {cs : List Cel} : (Sl.own cs).vw = some (.list (cs.map Cel.pd)) := (rfl)
@[simp] theorem q_pd_dat {d : PD} : (Cel.dat d).pd = d := (rfl)
@[simp] theorem q_pd_sub {ds : List PD} : (Cel.sub ds).pd = .list ds := (rfl)
@[simp] theorem q_var {i : Nat} : xVar i v = (v[i]?).bind id := (rfl)
@[simp] theorem q_c {d : PD} : xC d v = some d := (rfl)
@[simp] theorem q_op {f : PD → PD → Option PD} {a b : XE} : xOp f a b v = (a v).bind fun x => (b v).bind fun y => f x y := (rfl)
@[simp] theorem q_un {f : PD → Option PD} {a : XE} : xUn f a v = (a v).bind f := (rfl)
@[simp] theorem q_nil : xNil v = some [] := (rfl)
@[simp] theorem q_cons {a : XE} {as : XA} : xCons a as v = (a v).bind fun x => (as v).bind fun xs => some (x :: xs) := (rfl)
@[simp] theorem q_tup {as : XA} : xTup as v = (as v).bind fun ds => grd (ds.length ≤ 100000) (some (.tuple ds)) := by
  unfold xTup
  simp only [grd_ite]
@[simp] theorem q_lst {as : XA} : xLst as v = (as v).bind fun ds => grd (ds.length ≤ 100000) (some (.list ds)) := by
  unfold xLst
  simp only [grd_ite]
@[simp] theorem q_cb {f : List PD → Option PD} {as : XA} : xCB f as v = (as v).bind f := (rfl)
@[simp] theorem q_isB {b : Bool} : isB (.bool b) = some b := (rfl)
@[simp] theorem q_B {a : XE} : xB a v = (a v).bind isB := (rfl)
@[simp] theorem q_tand {a b : XT} : xTAnd a b v = (a v).bind fun c => andO c (b v) := (rfl)
@[simp] theorem q_tor {a b : XT} : xTOr a b v = (a v).bind fun c => orO c (b v) := (rfl)
@[simp] theorem q_tnot {a : XT} : xTNot a v = (a v).bind fun c => some (!c) := (rfl)
@[simp] theorem q_yes : xYes v = some true := (rfl)
@[simp] theorem q_and {a b : XE} : xAnd a b v = ((a v).bind isB).bind fun c => andV c (b v) := (rfl)
@[simp] theorem q_or {a b : XE} : xOr a b v = ((a v).bind isB).bind fun c => orV c (b v) := (rfl)
@[simp] theorem q_not {a : XE} : xNot a v = ((a v).bind isB).bind fun c => some (.bool (!c)) := (rfl)
@[simp] theorem q_if {c : XT} {a b : XE} : xIf c a b v = (c v).bind fun k => alt k (tag (a v)) (tag (b v)) := (rfl)
@[simp] theorem q_chain {f g : PD → PD → Option PD} {a b c : XE} : xChain f g a b c v = (a v).bind fun x => (b v).bind fun y => ((f x y).bind isB).bind fun k => andV k ((c v).bind fun z => g y z) := (rfl)
@[simp] theorem q_isi {t : Ty} {a : XE} : xIsi t a v = (a v).bind fun d => grd (full d = false) (some (.bool (isTy t d))) := by
  unfold xIsi
  congr 1
  funext d
  rw [← grd_ite]
  cases full d <;> rfl
@[simp] theorem q_nop : xNoPart v = some none := (rfl)
@[simp] theorem q_part {a : XE} : xPart a v = (a v).bind fun d => match d with | .int i => some (some i) | _ => none := (rfl)
@[simp] theorem q_sl {a : XE} {lo hi : XO} : xSl a lo hi v = (a v).bind fun d => (lo v).bind fun l => (hi v).bind fun h => slP d l h := (rfl)
@[simp] theorem q_on1 {f : PD → Option PD} {x : PD} : on1 f [x] = f x := (rfl)
@[simp] theorem q_xiE {a : XE} : xiE a v = (a v).bind seqP := (rfl)
@[simp] theorem q_xiA {f : List PD → Option (List PD)} {as : XA} : xiA f as v = (as v).bind f := (rfl)
@[simp] theorem q_lc {src : XI} {g : XGV} {t : XT} {e : XE} {vs : List Nat} : xLc src g t e vs v = (src v).bind fun xs => grd (xs.length ≤ 40000) ((lcGo g t e (clear v vs) xs).bind fun ds => some (.list ds)) := by
  unfold xLc
  simp only [grd_ite]
@[simp] theorem q_clear_nil : clear v [] = v := (rfl)
@[simp] theorem q_clear_cons {i : Nat} {vs : List Nat} : clear v (i :: vs) = (clear v vs).set i none := (rfl)
@[simp] theorem q_gvName {i : Nat} {x : PD} : gvName i x v = some (v.set i (some x)) := (rfl)
@[simp] theorem q_gvNil : gvNil [] v = some v := (rfl)
@[simp] theorem q_gvCons {g : XGV} {gs : XGVs} {x : PD} {xs : List PD} : gvCons g gs (x :: xs) v = (g x v).bind fun v1 => gs xs v1 := (rfl)
@[simp] theorem q_gvTup {n : Nat} {gs : XGVs} {x : PD} : gvTup n gs x v = (seqP x).bind fun ds => grd (ds.length = n) (gs ds v) := by
  unfold gvTup
  simp only [grd_ite]
@[simp] theorem q_add_i {i j : Int} : addP (.int i) (.int j) = some (.int (i + j)) := (rfl)
@[simp] theorem q_add_l {xs ys : List PD} : addP (.list xs) (.list ys) = grd (xs.length + ys.length ≤ 100000) (some (.list (xs ++ ys))) := by
  unfold addP
  simp only [grd_ite]
@[simp] theorem q_add_t {xs ys : List PD} : addP (.tuple xs) (.tuple ys) = grd (xs.length + ys.length ≤ 100000) (some (.tuple (xs ++ ys))) := by
  unfold addP
  simp only [grd_ite]
@[simp] theorem q_sub {i j : Int} : subP (.int i) (.int j) = some (.int (i - j)) := (rfl)
@[simp] theorem q_div {i j : Int} : divP (.int i) (.int j) = grd (Dvr j) (some (.int (i / j))) := by
  unfold divP
  simp only [grd_ite]
  exact grd_iff ⟨fun h => ⟨h.1, h.2⟩, fun h => ⟨h.lo, h.hi⟩⟩
@[simp] theorem q_mod {i j : Int} : modP (.int i) (.int j) = grd (0 < j) (some (.int (i % j))) := by
  unfold modP
  simp only [grd_ite]
  rfl
@[simp] theorem q_pow {i j : Int} : powP (.int i) (.int j) = grd (0 ≤ j ∧ j ≤ 1000 ∧ In63 i) (some (.int (i ^ j.toNat))) := by
  unfold powP
  simp only [grd_ite]
  exact grd_iff ⟨fun h => ⟨h.1, h.2.1, h.2.2.1, h.2.2.2⟩, fun h => ⟨h.1, h.2.1, h.2.2.lo, h.2.2.hi⟩⟩
@[simp] theorem q_mul {i j : Int} : mulP (.int i) (.int j) = grd (In64 i ∨ In64 j) (some (.int (i * j))) := by
  unfold mulP
  simp only [grd_ite]
  exact grd_iff ⟨fun h => h.elim (fun h => .inl ⟨h.1, h.2⟩) fun h => .inr ⟨h.1, h.2⟩, fun h => h.elim (fun h => .inl ⟨h.lo, h.hi⟩) fun h => .inr ⟨h.lo, h.hi⟩⟩
@[simp] theorem q_lt {i j : Int} : ltP (.int i) (.int j) = some (.bool (decide (i < j))) := (rfl)
@[simp] theorem q_le {i j : Int} : leP (.int i) (.int j) = some (.bool (decide (i ≤ j))) := (rfl)
@[simp] theorem q_gtU {i j : Int} : gtU (.int i) (.int j) = some (.bool (decide (j < i))) := (rfl)
@[simp] theorem q_ge {i j : Int} : geP (.int i) (.int j) = some (.bool (decide (j ≤ i))) := (rfl)
@[simp] theorem q_neg {i : Int} : negP (.int i) = some (.int (-i)) := (rfl)
@[simp] theorem q_eq_i {i j : Int} : eqP (.int i) (.int j) = some (.bool (i == j)) := (rfl)
@[simp] theorem q_ne_i {i j : Int} : neP (.int i) (.int j) = some (.bool (!(i == j))) := (rfl)
@[simp] theorem q_is {x : PD} : isU x .none = some (.bool (isNone x)) := by cases x <;> rfl
@[simp] theorem q_isnt {x : PD} : isntU x .none = some (.bool (!isNone x)) := by cases x <;> rfl
@[simp] theorem q_isb {b c : Bool} : isU (.bool b) (.bool c) = some (.bool (b == c)) := (rfl)
@[simp] theorem q_isntb {b c : Bool} : isntU (.bool b) (.bool c) = some (.bool (b != c)) := (rfl)
@[simp] theorem q_isNone_n : isNone .none = true := (rfl)
@[simp] theorem q_isNone_i {i : Int} : isNone (.int i) = false := (rfl)
@[simp] theorem q_isNone_t {ds : List PD} : isNone (.tuple ds) = false := (rfl)
@[simp] theorem q_ix_t {ds : List PD} {i : Int} : ixP (.tuple ds) (.int i) = atI ds i := (rfl)
@[simp] theorem q_ix_l {ds : List PD} {i : Int} : ixP (.list ds) (.int i) = atI ds i := (rfl)
@[simp] theorem q_ix_s {ds : List PD} {i : Int} : ixP (scrD ds) (.int i) = atI ds i := (rfl)
@[simp] theorem q_sl_t {ds : List PD} {lo hi : Option Int} : slP (.tuple ds) lo hi = some (.tuple (cutD ds lo hi)) := (rfl)
@[simp] theorem q_sl_l {ds : List PD} {lo hi : Option Int} : slP (.list ds) lo hi = some (.list (cutD ds lo hi)) := (rfl)
@[simp] theorem q_sl_s {ds : List PD} {lo hi : Option Int} : slP (scrD ds) lo hi = some (.list (cutD ds lo hi)) := (rfl)
@[simp] theorem q_seq_t {ds : List PD} : seqP (.tuple ds) = some ds := (rfl)
@[simp] theorem q_seq_l {ds : List PD} : seqP (.list ds) = some ds := (rfl)
@[simp] theorem q_seq_s {ds : List PD} : seqP (scrD ds) = some ds := (rfl)
@[simp] theorem q_len_t {ds : List PD} : lenP (.tuple ds) = some (natD ds.length) := (rfl)
@[simp] theorem q_len_l {ds : List PD} : lenP (.list ds) = some (natD ds.length) := (rfl)
@[simp] theorem q_len_s {ds : List PD} : lenP (scrD ds) = some (natD ds.length) := (rfl)
@[simp] theorem q_tupP_l {ds : List PD} : tupP (.list ds) = some (.tuple ds) := (rfl)
@[simp] theorem q_tupP_t {ds : List PD} : tupP (.tuple ds) = some (.tuple ds) := (rfl)
@[simp] theorem q_absP {i : Int} : absP (.int i) = some (.int (if i < 0 then -i else i)) := (rfl)
@[simp] theorem q_enum_t {ds : List PD} : enumP [.tuple ds] = some (pairsD ds) := (rfl)
@[simp] theorem q_enum_l {ds : List PD} : enumP [.list ds] = some (pairsD ds) := (rfl)
@[simp] theorem q_rng {j : Int} : rngP [.int j] = grd (In62 j) (some ((List.range j.toNat).map natD)) := by
  have e : (List.range j.toNat).map (fun k => PyData.int (0 + (k : Nat))) = (List.range j.toNat).map natD := by
    apply List.map_congr_left
    intro k _
    rw [Int.zero_add]
  unfold rngP
  dsimp only
  rw [e, grd_ite]
  exact grd_iff ⟨fun h => ⟨h.1, h.2⟩, fun h => ⟨h.lo, h.hi⟩⟩
@[simp] theorem q_full_n : full .none = false := (rfl)
@[simp] theorem q_full_b {b : Bool} : full (.bool b) = false := (rfl)
@[simp] theorem q_full_i {i : Int} : full (.int i) = false := (rfl)
@[simp] theorem q_full_s {x : Str} : full (.str x) = false := (rfl)
@[simp] theorem q_full_l {ds : List PD} : full (.list ds) = false := (rfl)
@[simp] theorem q_full_t {ds : List PD} : full (.tuple ds) = false := (rfl)
@[simp] theorem q_full_d : full (.dict []) = false := (rfl)
@[simp] theorem q_full_d1 {k : Str} {d : PD} {r : List (PD × PD)} : full (.dict ((.str k, d) :: r)) = false := (rfl)
@[simp] theorem q_flat_n : flat .none = true := by simp [flat]
@[simp] theorem q_flat_b {b : Bool} : flat (.bool b) = true := by simp [flat]
@[simp] theorem q_flat_i {i : Int} : flat (.int i) = true := by simp [flat]
@[simp] theorem q_flat_s {x : Str} : flat (.str x) = true := by simp [flat]
@[simp] theorem q_flat_t {ds : List PD} : flat (.tuple ds) = flats ds := by simp [flat]
@[simp] theorem q_flats_nil : flats [] = true := by simp [flats]
@[simp] theorem q_flats_cons {d : PD} {ds : List PD} : flats (d :: ds) = (flat d && flats ds) := by simp [flats]
@[simp] theorem q_wM {x : XE} : wM x ρ = (x (mk ρ)).bind fun d => some (d, ρ) := (rfl)
@[simp] theorem q_wV {x : XE} : wV x ρ = (x (vw ρ)).bind fun d => grd (flat d = true) (some (d, ρ)) := by
  unfold wV
  simp only [grd_ite]
@[simp] theorem q_wMT {x : XT} : wMT x ρ = (x (mk ρ)).bind fun d => some (d, ρ) := (rfl)
@[simp] theorem q_wVT {x : XT} : wVT x ρ = (x (vw ρ)).bind fun d => some (d, ρ) := (rfl)
@[simp] theorem q_wNil : wNil ρ = some ([], ρ) := (rfl)
@[simp] theorem q_wCons {a : XW} {as : XWA} : wCons a as ρ = (a ρ).bind fun x => (as x.2).bind fun xs => some (x.1 :: xs.1, xs.2) := (rfl)
@[simp] theorem q_wOp {f : PD → PD → Option PD} {a b : XW} : wOp f a b ρ = (a ρ).bind fun x => (b x.2).bind fun y => (f x.1 y.1).bind fun z => some (z, y.2) := (rfl)
@[simp] theorem q_wTup {as : XWA} : wTup as ρ = (as ρ).bind fun x => grd (x.1.length ≤ 100000) (some (.tuple x.1, x.2)) := by
  unfold wTup
  simp only [grd_ite]
@[simp] theorem q_wLst {as : XWA} : wLst as ρ = (as ρ).bind fun x => grd (x.1.length ≤ 100000) (some (.list x.1, x.2)) := by
  unfold wLst
  simp only [grd_ite]
@[simp] theorem q_wCB {f : List PD → Option PD} {as : XWA} : wCB f as ρ = (as ρ).bind fun x => (f x.1).bind fun z => some (z, x.2) := (rfl)
@[simp] theorem q_wB {a : XW} : wB a ρ = (a ρ).bind fun x => (isB x.1).bind fun b => some (b, x.2) := (rfl)
@[simp] theorem q_wCallK {i : Nat} {g : List Cel → List PD → Option (PD × List Cel)} {as : XWA} : wCallK i g as ρ = (ownAt ρ i).bind fun _ => (as ρ).bind fun x => (ownAt x.2 i).bind fun cs => (g cs x.1).bind fun y => some (y.1, x.2.set i (.own y.2)) := (rfl)
@[simp] theorem q_ownAt0 {cs : List Cel} {r : Env} : ownAt (.own cs :: r) 0 = some cs := (rfl)
@[simp] theorem q_ownAtS {s : Sl} {r : Env} {i : Nat} : ownAt (s :: r) (i + 1) = ownAt r i := (rfl)
@[simp] theorem q_wFz {o : XWO} : wFz o ρ = (o ρ).bind fun x => some (.list (x.1.map Cel.pd), x.2) := (rfl)
@[simp] theorem q_wOM {x : XE} : wOM x ρ = ((x (mk ρ)).bind asList).bind fun ds => some (dats ds, ρ) := (rfl)
@[simp] theorem q_wOV {x : XE} : wOV x ρ = ((x (vw ρ)).bind asList).bind fun ds => grd (flats ds = true) (some (dats ds, ρ)) := by
  unfold wOV
  simp only [grd_ite]
  rfl
@[simp] theorem q_asList {ds : List PD} : asList (.list ds) = some ds := (rfl)
@[simp] theorem q_wOL {as : XWC} : wOL as ρ = (as ρ).bind fun x => grd (x.1.length ≤ 100000) (some x) := by
  unfold wOL
  simp only [grd_ite]
@[simp] theorem q_wcNil : wcNil ρ = some ([], ρ) := (rfl)
@[simp] theorem q_wcDat {a : XW} {as : XWC} : wcDat a as ρ = (a ρ).bind fun x => (as x.2).bind fun xs => some (.dat x.1 :: xs.1, xs.2) := (rfl)
@[simp] theorem q_wcSub {a : XWO} {as : XWC} : wcSub a as ρ = (a ρ).bind fun x => (allDat x.1).bind fun ds => (as x.2).bind fun xs => some (.sub ds :: xs.1, xs.2) := (rfl)
@[simp] theorem q_allDat {ds : List PD} : allDat (dats ds) = some ds := @allDat_map kk0 ds
@[simp] theorem q_allDat_nil : allDat [] = some [] := (rfl)
@[simp] theorem q_wCallD {f : List PD → Option (List Cel)} {as : XWA} : wCallD f as ρ = (as ρ).bind fun x => (f x.1).bind fun cs => some (cs, x.2) := (rfl)
@[simp] theorem q_isI {i : Int} : isI (.int i) = some i := (rfl)
@[simp] theorem q_wiE {a : XW} : wiE a ρ = (a ρ).bind fun x => (seqP x.1).bind fun xs => some (xs, x.2) := (rfl)
@[simp] theorem q_wiA {f : List PD → Option (List PD)} {as : XWA} : wiA f as ρ = (as ρ).bind fun x => (f x.1).bind fun xs => some (xs, x.2) := (rfl)
@[simp] theorem q_gName {i : Nat} {x : PD} : gName' i x ρ = some (ρ.set i (.dat x)) := (rfl)
@[simp] theorem q_gNil : gNil' [] ρ = some ρ := (rfl)
@[simp] theorem q_gCons {g : XG} {gs : XGs} {x : PD} {xs : List PD} : gCons' g gs (x :: xs) ρ = (g x ρ).bind fun v1 => gs xs v1 := (rfl)
@[simp] theorem q_gTup {n : Nat} {gs : XGs} {x : PD} : gTup' n gs x ρ = (seqP x).bind fun ds => grd (ds.length = n) (gs ds ρ) := by
  unfold gTup'
  simp only [grd_ite]
@[simp] theorem q_sNext : sNext ρ = some (.nxt ρ) := (rfl)
@[simp] theorem q_sRet {w : XW} : sRet w ρ = (w ρ).bind fun x => some (.ret x.1 x.2) := (rfl)
@[simp] theorem q_sRetO {w : XWO} : sRetO w ρ = (w ρ).bind fun x => some (.retO x.1 x.2) := (rfl)
@[simp] theorem q_sIf {c : XWT} {x y : XS} : sIf c x y ρ = (c ρ).bind fun k => alt k.1 (tag (x k.2)) (tag (y k.2)) := (rfl)
@[simp] theorem q_sAsg {g : XG} {w : XW} : sAsg g w ρ = (w ρ).bind fun x => (g x.1 x.2).bind fun ρ1 => some (.nxt ρ1) := (rfl)
@[simp] theorem q_sOwn {i : Nat} {w : XWO} : sOwn i w ρ = (w ρ).bind fun x => grd (i < x.2.length) (some (.nxt (x.2.set i (.own x.1)))) := by
  unfold sOwn
  simp only [grd_ite]
@[simp] theorem q_toSl_d {d : PD} : toSl (.dat d) = .dat d := (rfl)
@[simp] theorem q_toSl_s {ds : List PD} : toSl (.sub ds) = .own (dats ds) := (rfl)
@[simp] theorem q_two {c e : Cel} : two [c, e] = some (c, e) := (rfl)
@[simp] theorem q_sPar {i j : Nat} {as : XWC} : sPar i j as ρ = (as ρ).bind fun x => (two x.1).bind fun c => grd (i < x.2.length ∧ j < x.2.length) (some (.nxt ((x.2.set i (toSl c.1)).set j (toSl c.2)))) := by
  unfold sPar
  simp only [grd_ite]
@[simp] theorem q_sApp {i : Nat} {a : XW} : sApp i a ρ = (ownAt ρ i).bind fun _ => (a ρ).bind fun x => (ownAt x.2 i).bind fun cs => grd (cs.length < 100000) (some (.nxt (x.2.set i (.own (cs ++ [.dat x.1]))))) := by
  unfold sApp
  simp only [grd_ite]
@[simp] theorem q_sSet {i : Nat} {k : XE} {a : XW} : sSet i k a ρ = (a ρ).bind fun x => (ownAt x.2 i).bind fun cs => ((k (vw x.2)).bind isI).bind fun k => (ixN cs.length k).bind fun n => (datAt cs n).bind fun _ => some (.nxt (x.2.set i (.own (cs.set n (.dat x.1))))) := (rfl)
@[simp] theorem q_sSetS {i : Nat} {k j : XE} {a : XW} : sSetS i k j a ρ = (a ρ).bind fun x => (ownAt x.2 i).bind fun cs => ((k (vw x.2)).bind isI).bind fun k => (ixN cs.length k).bind fun n => (subAt cs n).bind fun ds => ((j (vw x.2)).bind isI).bind fun j => (ixN ds.length j).bind fun m => some (.nxt (x.2.set i (.own (cs.set n (.sub (ds.set m x.1)))))) := (rfl)
@[simp] theorem q_sFz {i : Nat} {y : XS} : sFz i y ρ = y (fzE ρ i) := (rfl)
@[simp] theorem q_fz0 {cs : List Cel} {r : Env} : fzE (.own cs :: r) 0 = .dat (.list (cs.map Cel.pd)) :: r := (rfl)
@[simp] theorem q_fzS {s : Sl} {r : Env} {i : Nat} : fzE (s :: r) (i + 1) = s :: fzE r i := by
  unfold fzE
  rw [List.getElem?_cons_succ]
  cases h : r[i]? with
  | none => rfl
  | some q => cases q <;> rfl
@[simp] theorem q_sFor {src : XWI} {g : XG} {b : XS} : sFor src g b ρ = (src ρ).bind fun x => forGo g b x.1 x.2 := (rfl)
end
end Uv

namespace Uv
open PySem PySem.Spec PyProof.Rows L2
section
variable {ρ : Env} {v : VE}
@[simp] theorem q_wTNot {a : XWT} : wTNot a ρ = (a ρ).bind fun c => some (!c.1, c.2) := (rfl)
@[simp] theorem q_sExt {i : Nat} {a : XW} : sExt i a ρ = (ownAt ρ i).bind fun _ => (a ρ).bind fun x => (asList x.1).bind fun ds => (ownAt x.2 i).bind fun cs => grd (cs.length + ds.length ≤ 100000) (some (.nxt (x.2.set i (.own (cs ++ dats ds))))) := by
  unfold sExt
  simp only [grd_ite]
  rfl
@[simp] theorem q_sIns {i : Nat} {as : XWA} : sIns i as ρ = (ownAt ρ i).bind fun _ => (as ρ).bind fun x => (insA x.1).bind fun kd => (ownAt x.2 i).bind fun cs => grd (cs.length < 100000 ∧ 0 ≤ kd.1 ∧ In63e kd.1) (some (.nxt (x.2.set i (.own (cs.take kd.1.toNat ++ [.dat kd.2] ++ cs.drop kd.1.toNat))))) := by
  unfold sIns
  simp only [grd_ite]
  congr 1; funext _; congr 1; funext x; congr 1; funext k; congr 1; funext cs
  exact grd_iff ⟨fun h => ⟨h.1, h.2.1, by have := h.2.1; omega, h.2.2⟩, fun h => ⟨h.1, h.2.1, h.2.2.hi⟩⟩
@[simp] theorem q_insA {i : Int} {d : PD} : insA [.int i, d] = some (i, d) := (rfl)
@[simp] theorem q_sPopS {i : Nat} {k j : XE} : sPopS i k j ρ = (ownAt ρ i).bind fun cs => ((k (vw ρ)).bind isI).bind fun k => (ixN cs.length k).bind fun n => (subAt cs n).bind fun ds => ((j (vw ρ)).bind isI).bind fun j => grd (In63e j) ((ixN ds.length j).bind fun m => some (.nxt (ρ.set i (.own (cs.set n (.sub (ds.eraseIdx m))))))) := by
  unfold sPopS
  simp only [grd_ite]
  congr 1; funext cs; congr 1; funext k; congr 1; funext n; congr 1; funext ds; congr 1; funext j
  exact grd_iff ⟨fun h => ⟨h.1, h.2⟩, fun h => ⟨h.lo, h.hi⟩⟩
@[simp] theorem q_sBreak : sBreak ρ = some (.brk ρ) := (rfl)
@[simp] theorem q_sWhile {n : Nat} {c : XWT} {b : XS} : sWhile n c b ρ = whGo c b n ρ := (rfl)
@[simp] theorem q_wLc {src : XWI} {g : XG} {t : XWT} {e : XW} {vs : List Nat} : wLc src g t e vs ρ = (src ρ).bind fun x => grd (x.1.length ≤ 40000) ((wlGo g t e vs x.1 x.2).bind fun r => some (dats r.1, backE x.2 r.2 vs)) := by
  unfold wLc
  simp only [grd_ite]
  rfl
@[simp] theorem q_backE_nil {ρ1 : Env} : backE ρ1 ρ [] = ρ := (rfl)
@[simp] theorem q_backE_cons {ρ1 : Env} {i : Nat} {vs : List Nat} : backE ρ1 ρ (i :: vs) = (backE ρ1 ρ vs).set i (keepD ρ1[i]?) := (rfl)
@[simp] theorem q_keepD_d {d : PD} : keepD (some (.dat d)) = .dat d := (rfl)
@[simp] theorem q_keepD_u : keepD (some .un) = .un := (rfl)
@[simp] theorem q_keepD_o {cs : List Cel} : keepD (some (.own cs)) = .un := (rfl)
@[simp] theorem q_clearE_nil : clearE ρ [] = ρ := (rfl)
@[simp] theorem q_clearE_cons {i : Nat} {vs : List Nat} : clearE ρ (i :: vs) = (clearE ρ vs).set i .un := (rfl)
def endP {Q : PD → Prop} (_ : Tag Q) : Out → Prop
  | .ret d _ => Q d
  | .nxt _ => Q .none
  | _ => False
def endW {Q : PD × List Cel → Prop} (_ : Tag Q) : Out → Prop
  | .ret d ρ => wp (ownAt ρ 0) (tag fun cs => Q (d, cs))
  | .nxt ρ => wp (ownAt ρ 0) (tag fun cs => Q (.none, cs))
  | _ => False
def endD' {Q : List Cel → Prop} (_ : Tag Q) : Out → Prop
  | .retO cs _ => Q cs
  | _ => False
section
variable {QP : PD → Prop} {QW : PD × List Cel → Prop} {QD : List Cel → Prop} {d : PD} {cs : List Cel}
@[simp] theorem endP_ret : endP (tag QP) (.ret d ρ) = QP d := (rfl)
@[simp] theorem endP_nxt : endP (tag QP) (.nxt ρ) = QP .none := (rfl)
@[simp] theorem endW_ret : endW (tag QW) (.ret d ρ) = wp (ownAt ρ 0) (tag fun cs => QW (d, cs)) := (rfl)
@[simp] theorem endW_nxt : endW (tag QW) (.nxt ρ) = wp (ownAt ρ 0) (tag fun cs => QW (.none, cs)) := (rfl)
@[simp] theorem endD_ret : endD' (tag QD) (.retO cs ρ) = QD cs := (rfl)
end
theorem wp_runP {n k : Nat} {X : XS} {ds : List PD} {Q : PD → Prop} (hn : ds.length = n) (h : wp (X (ds.map Sl.dat ++ List.replicate k Sl.un)) (tag (endP (tag Q)))) : wp (runP n k X ds) (tag Q) := by
  obtain ⟨o, e, h⟩ := h
  unfold runP
  rw [if_pos hn, e]
  cases o with
  | ret d ρ => exact ⟨_, rfl, h⟩
  | nxt ρ => exact ⟨_, rfl, h⟩
  | _ => exact h.elim
theorem wp_runW {n k : Nat} {X : XS} {cs : List Cel} {ds : List PD} {Q : PD × List Cel → Prop} (hn : ds.length = n) (h : wp (X (.own cs :: (ds.map Sl.dat ++ List.replicate k Sl.un))) (tag (endW (tag Q)))) : wp (runW n k X cs ds) (tag Q) := by
  obtain ⟨o, e, h⟩ := h
  unfold runW
  rw [if_pos hn, e]
  cases o with
  | ret d ρ =>
    obtain ⟨cs', e2, h2⟩ := h
    exact ⟨(d, cs'), by rw [Option.bind_some]; show (ownAt ρ 0).bind _ = _; rw [e2]; rfl, h2⟩
  | nxt ρ =>
    obtain ⟨cs', e2, h2⟩ := h
    exact ⟨(.none, cs'), by rw [Option.bind_some]; show (ownAt ρ 0).bind _ = _; rw [e2]; rfl, h2⟩
  | _ => exact h.elim
theorem wp_runD {n k : Nat} {X : XS} {ds : List PD} {Q : List Cel → Prop} (hn : ds.length = n) (h : wp (X (ds.map Sl.dat ++ List.replicate k Sl.un)) (tag (endD' (tag Q)))) : wp (runD n k X ds) (tag Q) := by
  obtain ⟨o, e, h⟩ := h
  unfold runD
  rw [if_pos hn, e]
  cases o with
  | retO d ρ => exact ⟨_, rfl, h⟩
  | _ => exact h.elim
theorem eq_of_wp {α : Type} {o : Option α} {a : α} (h : wp o (tag fun x => x = a)) : o = some a := wp_eq.mp h
structure Inv {J : Env → Prop} (t : Tag J) (ρ : Env) : Prop where
  of ::
  to : J ρ
def forK {J : Env → Prop} {Q : Out → Prop} (_ : Tag J) (_ : Tag Q) : Out → Prop
  | .nxt ρ => Inv (tag J) ρ
  | .cnt ρ => Inv (tag J) ρ
  | .brk ρ => Q (.nxt ρ)
  | .ret d ρ => Q (.ret d ρ)
  | .retO d ρ => Q (.retO d ρ)
section
variable {J : Env → Prop} {Q : Out → Prop} {d : PD} {cs : List Cel}
@[simp] theorem forK_nxt : forK (tag J) (tag Q) (.nxt ρ) = Inv (tag J) ρ := (rfl)
@[simp] theorem forK_cnt : forK (tag J) (tag Q) (.cnt ρ) = Inv (tag J) ρ := (rfl)
@[simp] theorem forK_brk : forK (tag J) (tag Q) (.brk ρ) = Q (.nxt ρ) := (rfl)
@[simp] theorem forK_ret : forK (tag J) (tag Q) (.ret d ρ) = Q (.ret d ρ) := (rfl)
@[simp] theorem forK_retO : forK (tag J) (tag Q) (.retO cs ρ) = Q (.retO cs ρ) := (rfl)
end
theorem wp_for {g : XG} {b : XS} {xs : List PD} {Q : Out → Prop} (I : Nat → Env → Prop) (h0 : I 0 ρ) (hs : ∀ (i : Nat) (h : i < xs.length) (ρ : Env), I i ρ → wp (g xs[i] ρ) (tag fun ρ1 => wp (b ρ1) (tag (forK (tag (I (i + 1))) (tag Q))))) (hq : ∀ ρ, I xs.length ρ → Q (.nxt ρ)) : wp (forGo g b xs ρ) (tag Q) := by
  induction xs generalizing ρ I with
  | nil => exact ⟨_, rfl, hq ρ h0⟩
  | cons x xs ih =>
    obtain ⟨ρ1, e1, o, e2, h2⟩ := hs 0 (Nat.succ_pos _) ρ h0
    have go : ∀ ρ2, I 1 ρ2 → wp (forGo g b xs ρ2) (tag Q) := fun ρ2 h3 => ih (fun i => I (i + 1)) h3 (fun i hi ρ hI => hs (i + 1) (Nat.succ_lt_succ hi) ρ hI) hq
    have e1 : g x ρ = some ρ1 := e1
    unfold forGo
    rw [e1, Option.bind_some, e2, Option.bind_some]
    cases o with
    | nxt ρ2 => exact go ρ2 h2.to
    | cnt ρ2 => exact go ρ2 h2.to
    | brk ρ2 => exact ⟨_, rfl, h2⟩
    | ret d ρ2 => exact ⟨_, rfl, h2⟩
    | retO d ρ2 => exact ⟨_, rfl, h2⟩
@[simp] theorem Inv_wp {g : Env → Option Out} {Q : Out → Prop} : Inv (tag fun ρ2 => wp (g ρ2) (tag Q)) ρ = wp (g ρ) (tag Q) := propext ⟨fun h => h.to, fun h => ⟨h⟩⟩
theorem wp_forM {α : Type} {g : XG} {b : XS} {l : List α} {enc : α → PD} {Q : Out → Prop} (I : Nat → Env → Prop) (h0 : I 0 ρ) (hs : ∀ (i : Nat) (h : i < l.length) (ρ : Env), I i ρ → wp (g (enc l[i]) ρ) (tag fun ρ1 => wp (b ρ1) (tag (forK (tag (I (i + 1))) (tag Q))))) (hq : ∀ ρ, I l.length ρ → Q (.nxt ρ)) : wp (forGo g b (l.map enc) ρ) (tag Q) :=
  wp_for I h0 (fun i h ρ hI => by
    rw [List.getElem_map]
    exact hs i (by simpa using h) ρ hI) (fun ρ h => hq ρ (by simpa using h))
theorem wp_forR {g : XG} {b : XS} {n : Nat} {Q : Out → Prop} (I : Nat → Env → Prop) (h0 : I 0 ρ) (hs : ∀ (i : Nat) (h : i < n) (ρ : Env), I i ρ → wp (g (natD i) ρ) (tag fun ρ1 => wp (b ρ1) (tag (forK (tag (I (i + 1))) (tag Q))))) (hq : ∀ ρ, I n ρ → Q (.nxt ρ)) : wp (forGo g b ((List.range n).map natD) ρ) (tag Q) :=
  wp_forM I h0 (fun i h ρ hI => by
    rw [List.getElem_range]
    exact hs i (by simpa using h) ρ hI) (fun ρ h => hq ρ (by simpa using h))
theorem pairsD_map {α : Type} (enc : α → PD) (xs : List α) : pairsD (xs.map enc) = (xs.zipIdx).map fun p => .tuple [natD p.2, enc p.1] := by
  unfold pairsD
  rw [List.zipIdx_map, List.map_map]
  rfl
@[simp] theorem pairsD_len {xs : List PD} : (pairsD xs).length = xs.length := by unfold pairsD; simp
theorem wp_forE {α : Type} {g : XG} {b : XS} {l : List α} {enc : α → PD} {Q : Out → Prop} (I : Nat → Env → Prop) (h0 : I 0 ρ) (hs : ∀ (i : Nat) (h : i < l.length) (ρ : Env), I i ρ → wp (g (.tuple [natD i, enc l[i]]) ρ) (tag fun ρ1 => wp (b ρ1) (tag (forK (tag (I (i + 1))) (tag Q))))) (hq : ∀ ρ, I l.length ρ → Q (.nxt ρ)) : wp (forGo g b (pairsD (l.map enc)) ρ) (tag Q) := by
  rw [pairsD_map]
  refine wp_forM I h0 (fun i h ρ hI => ?_) (fun ρ h => hq ρ (by simpa using h))
  have h' : i < l.length := by simpa using h
  have := hs i h' ρ hI
  simp only [List.getElem_zipIdx, Nat.zero_add]
  exact this
theorem wp_while {c : XWT} {b : XS} {n : Nat} {Q : Out → Prop} (I : Nat → Env → Prop) {k : Nat} (hk : k < n) (h0 : I k ρ) (hs : ∀ (k : Nat) (ρ : Env), I k ρ → wp (c ρ) (tag fun x => (x.1 = false → Q (.nxt x.2)) ∧ (x.1 = true → wp (b x.2) (tag (forK (tag fun ρ => ∃ j, j < k ∧ I j ρ) (tag Q)))))) : wp (whGo c b n ρ) (tag Q) := by
  induction n generalizing k ρ with
  | zero => omega
  | succ n ih =>
    obtain ⟨⟨t, ρ1⟩, e1, h1, h2⟩ := hs k ρ h0
    unfold whGo
    rw [e1, Option.bind_some]
    cases t with
    | false => exact ⟨_, rfl, h1 rfl⟩
    | true =>
      obtain ⟨o, e2, h3⟩ := h2 rfl
      have e2 : b ρ1 = some o := e2
      simp only [if_true, e2, Option.bind_some]
      cases o with
      | nxt ρ2 => obtain ⟨j, hj, hI⟩ := h3.to; exact ih (by omega) hI
      | cnt ρ2 => obtain ⟨j, hj, hI⟩ := h3.to; exact ih (by omega) hI
      | brk ρ2 => exact ⟨_, rfl, h3⟩
      | ret d ρ2 => exact ⟨_, rfl, h3⟩
      | retO d ρ2 => exact ⟨_, rfl, h3⟩
theorem wp_lc {α : Type} {g : XGV} {t : XT} {e : XE} {enc : α → PD} (p : α → Bool) (f : α → PD) {l : List α} {Q : List PD → Prop} (h : ∀ x ∈ l, wp (g (enc x) v) (tag fun v1 => wp (t v1) (tag fun b => b = p x ∧ (p x = true → wp (e v1) (tag fun d => d = f x))))) (hq : Q ((l.filter p).map f)) : wp (lcGo g t e v (l.map enc)) (tag Q) := by
  have main : ∀ l : List α, (∀ x ∈ l, wp (g (enc x) v) (tag fun v1 => wp (t v1) (tag fun b => b = p x ∧ (p x = true → wp (e v1) (tag fun d => d = f x))))) → lcGo g t e v (l.map enc) = some ((l.filter p).map f) := by
    intro l
    induction l with
    | nil => intro _; rfl
    | cons x xs ih =>
      intro h
      obtain ⟨v1, h1, b, h2, hb, h3⟩ := h x (List.mem_cons_self ..)
      subst hb
      have ih := ih fun y hy => h y (List.mem_cons_of_mem _ hy)
      rw [List.map_cons]
      unfold lcGo
      rw [h1, Option.bind_some, h2, Option.bind_some, ih]
      cases hp : p x with
      | true =>
        obtain ⟨d, h4, h5⟩ := h3 hp
        subst h5
        rw [if_pos rfl, h4, List.filter_cons, if_pos hp]
        rfl
      | false => rw [if_neg Bool.false_ne_true, List.filter_cons, if_neg (by rw [hp]; exact Bool.false_ne_true)]
  exact ⟨_, main l h, hq⟩
theorem wp_lcT {α : Type} {g : XGV} {e : XE} {enc : α → PD} (f : α → PD) {l : List α} {Q : List PD → Prop} (h : ∀ x ∈ l, wp (g (enc x) v) (tag fun v1 => wp (e v1) (tag fun d => d = f x))) (hq : Q (l.map f)) : wp (lcGo g xYes e v (l.map enc)) (tag Q) :=
  wp_lc (fun _ => true) f (fun x hx => wp_mono (h x hx) fun v1 h1 => ⟨true, rfl, rfl, fun _ => h1⟩) (by rw [List.filter_eq_self.mpr fun _ _ => rfl]; exact hq)
theorem wp_lcE {α : Type} {g : XGV} {t : XT} {e : XE} {enc : α → PD} (p : α × Nat → Bool) (f : α × Nat → PD) {l : List α} {Q : List PD → Prop} (h : ∀ (i : Nat) (hi : i < l.length), wp (g (.tuple [natD i, enc l[i]]) v) (tag fun v1 => wp (t v1) (tag fun b => b = p (l[i], i) ∧ (p (l[i], i) = true → wp (e v1) (tag fun d => d = f (l[i], i)))))) (hq : Q ((l.zipIdx.filter p).map f)) : wp (lcGo g t e v (pairsD (l.map enc))) (tag Q) := by
  rw [pairsD_map]
  refine wp_lc p f (fun x hx => ?_) hq
  obtain ⟨y, i⟩ := x
  obtain ⟨h1, h2⟩ := List.mem_zipIdx' hx
  have h2 : y = l[i] := h2
  rw [h2]
  exact h i h1
theorem wp_wl {g : XG} {t : XWT} {e : XW} {vs : List Nat} {xs : List PD} {Q : List PD × Env → Prop} (I : Nat → List PD → Env → Prop) (h0 : I 0 [] ρ) (hs : ∀ (i : Nat) (h : i < xs.length) (ds : List PD) (ρ : Env), I i ds ρ → wp (g xs[i] (clearE ρ vs)) (tag fun ρ1 => wp (t ρ1) (tag fun b => (b.1 = true → wp (e b.2) (tag fun d => Inv (tag (I (i + 1) (ds ++ [d.1]))) d.2)) ∧ (b.1 = false → Inv (tag (I (i + 1) ds)) b.2)))) (hq : ∀ ds ρ, I xs.length ds ρ → Q (ds, ρ)) : wp (wlGo g t e vs xs ρ) (tag Q) := by
  have main : ∀ (xs : List PD) (I : Nat → List PD → Env → Prop) (acc : List PD) (ρ : Env), I 0 acc ρ → (∀ (i : Nat) (h : i < xs.length) (ds : List PD) (ρ : Env), I i ds ρ → wp (g xs[i] (clearE ρ vs)) (tag fun ρ1 => wp (t ρ1) (tag fun b => (b.1 = true → wp (e b.2) (tag fun d => Inv (tag (I (i + 1) (ds ++ [d.1]))) d.2)) ∧ (b.1 = false → Inv (tag (I (i + 1) ds)) b.2)))) → ∃ ds ρ', wlGo g t e vs xs ρ = some (ds, ρ') ∧ I xs.length (acc ++ ds) ρ' := by
    intro xs
    induction xs with
    | nil => intro I acc ρ h0 _; exact ⟨[], ρ, rfl, by simpa using h0⟩
    | cons x xs ih =>
      intro I acc ρ h0 hs
      obtain ⟨ρ1, e1, ⟨b, ρ2⟩, e2, h1, h2⟩ := hs 0 (Nat.succ_pos _) acc ρ h0
      have e1 : g x (clearE ρ vs) = some ρ1 := e1
      unfold wlGo
      rw [e1, Option.bind_some, e2, Option.bind_some]
      cases b with
      | true =>
        obtain ⟨⟨d, ρ3⟩, e3, h3⟩ := h1 rfl
        obtain ⟨ds, ρ', e4, h4⟩ := ih (fun i => I (i + 1)) (acc ++ [d]) ρ3 h3.to fun i hi ds ρ hI => hs (i + 1) (Nat.succ_lt_succ hi) ds ρ hI
        refine ⟨d :: ds, ρ', ?_, by simpa using h4⟩
        have e3 : e ρ2 = some (d, ρ3) := e3
        simp only [if_true, e3, Option.bind_some, e4]
      | false =>
        obtain ⟨ds, ρ', e4, h4⟩ := ih (fun i => I (i + 1)) acc ρ2 (h2 rfl).to fun i hi ds ρ hI => hs (i + 1) (Nat.succ_lt_succ hi) ds ρ hI
        refine ⟨ds, ρ', ?_, by simpa using h4⟩
        simp [e4]
  obtain ⟨ds, ρ', e1, h1⟩ := main xs I [] ρ h0 hs
  exact ⟨_, e1, hq ds ρ' (by simpa using h1)⟩
theorem natD_toNat {r : Int} (h : 0 ≤ r) : natD r.toNat = .int r := by unfold natD; rw [Int.toNat_of_nonneg h]
theorem emod_nat {a b : Int} (hb : 0 < b) : ∃ j : Nat, (j : Int) < b ∧ a % b = (j : Int) := by
  have h1 := Int.emod_nonneg a (show b ≠ 0 by omega)
  have h2 := Int.emod_lt_of_pos a hb
  exact ⟨(a % b).toNat, by omega, by omega⟩
theorem atI_nat' {α : Type} {xs : List α} {k : Nat} : atI xs (k : Int) = xs[k]? := by
  unfold atI ixN
  by_cases h : k < xs.length
  · rw [if_pos (by omega), if_pos (by omega)]
    simp
  · rw [if_pos (by omega), if_neg (by omega)]
    simp
    omega
theorem atI_at {α : Type} {xs : List α} {k : Nat} (h : k < xs.length) : atI xs (k : Int) = some xs[k] := by rw [atI_nat', List.getElem?_eq_getElem h]
theorem atI_map {α β : Type} {f : α → β} {xs : List α} {k : Nat} (h : k < xs.length) : atI (xs.map f) (k : Int) = some (f xs[k]) := by rw [atI_nat', List.getElem?_map, List.getElem?_eq_getElem h]; rfl
theorem atI_last {α : Type} {xs : List α} (h : xs ≠ []) : atI xs (-1) = some (xs.getLast h) := by
  unfold atI ixN
  have := List.length_pos_iff.mpr h
  rw [if_neg (by omega), if_pos (by omega)]
  simp [List.getLast_eq_getElem]
  rw [List.getElem?_eq_getElem (by omega)]
  congr 2
  omega
@[simp] theorem atI_0 {α : Type} {x : α} {xs : List α} : atI (x :: xs) 0 = some x := by simpa using atI_nat' (xs := x :: xs) (k := 0)
@[simp] theorem atI_1 {α : Type} {x y : α} {xs : List α} : atI (x :: y :: xs) 1 = some y := by simpa using atI_nat' (xs := x :: y :: xs) (k := 1)
@[simp] theorem atI_2 {α : Type} {x y z : α} {xs : List α} : atI (x :: y :: z :: xs) 2 = some z := by simpa using atI_nat' (xs := x :: y :: z :: xs) (k := 2)
@[simp] theorem atI_3 {α : Type} {x y z u : α} {xs : List α} : atI (x :: y :: z :: u :: xs) 3 = some u := by simpa using atI_nat' (xs := x :: y :: z :: u :: xs) (k := 3)
@[simp] theorem ixN_20 : ixN 2 0 = some 0 := (rfl)
@[simp] theorem ixN_21 : ixN 2 1 = some 1 := (rfl)
@[simp] theorem ixN_30 : ixN 3 0 = some 0 := (rfl)
@[simp] theorem ixN_31 : ixN 3 1 = some 1 := (rfl)
@[simp] theorem ixN_32 : ixN 3 2 = some 2 := (rfl)
@[simp] theorem ixN_40 : ixN 4 0 = some 0 := (rfl)
@[simp] theorem ixN_41 : ixN 4 1 = some 1 := (rfl)
@[simp] theorem ixN_42 : ixN 4 2 = some 2 := (rfl)
@[simp] theorem ixN_43 : ixN 4 3 = some 3 := (rfl)
theorem ixN_nat' {n k : Nat} (h : k < n) : ixN n (k : Int) = some k := by
  unfold ixN
  rw [if_pos (by omega), if_pos (by omega)]
  simp
@[simp] theorem datAt_0 {d : PD} {r : List Cel} : datAt (.dat d :: r) 0 = some d := (rfl)
@[simp] theorem datAt_S {c : Cel} {r : List Cel} {i : Nat} : datAt (c :: r) (i + 1) = datAt r i := (rfl)
@[simp] theorem subAt_0 {d : List PD} {r : List Cel} : subAt (.sub d :: r) 0 = some d := (rfl)
@[simp] theorem subAt_S {c : Cel} {r : List Cel} {i : Nat} : subAt (c :: r) (i + 1) = subAt r i := (rfl)
theorem unI_nats (ns : List Nat) : unI (ns.map natD) = some (ns.map fun (n : Nat) => (n : Int)) := by
  have e : ns.map natD = (ns.map fun (n : Nat) => (n : Int)).map PyData.int := by rw [List.map_map]; rfl
  rw [e]
  exact @unI_map kk0 _
theorem unB_of {α : Type} (f : α → Bool) (l : List α) : unB (l.map fun x => PyData.bool (f x)) = some (l.map f) := by
  have e : (l.map fun x => PyData.bool (f x)) = (l.map f).map PyData.bool := by rw [List.map_map]; rfl
  rw [e]
  exact @unB_map kk0 _
end
end Uv
namespace Uv
end Uv

namespace Uv
open PySem PySem.Spec PyProof.Rows L2
structure Road where
  b : Option Nat
  e : Option Nat
  r : Int
structure Web where
  roads : List Road
  gives : List (List Nat)
  takes : List (List Nat)
def endD : Option Nat → PD
  | none => .none
  | some n => natD n
def roadD (x : Road) : PD := .tuple [endD x.b, endD x.e, .int x.r]
def natsD (l : List Nat) : PD := .tuple (l.map natD)
def webD (W : Web) : PD := .tuple [.tuple (W.roads.map roadD), .tuple (W.gives.map natsD), .tuple (W.takes.map natsD)]
def side (s : Nat) (x : Road) : Option Nat := if s = 0 then x.b else x.e
def atR (rs : List Road) (s h : Nat) : List Nat := (rs.zipIdx.filter fun p => side s p.1 == some h).map (·.2)
def OkRoad (n : Nat) (x : Road) : Prop := x.b ≠ x.e ∧ (∀ h, x.b = some h → h < n) ∧ (∀ h, x.e = some h → h < n) ∧ 0 ≤ x.r ∧ x.r ≤ 1000000000000
structure IsWeb (W : Web) : Prop where
  houses : 1 ≤ W.gives.length ∧ W.gives.length ≤ 8
  same : W.takes.length = W.gives.length
  count : 1 ≤ W.roads.length ∧ W.roads.length ≤ 20
  road : ∀ x ∈ W.roads, OkRoad W.gives.length x
  give : ∀ (h : Nat) (l : List Nat), W.gives[h]? = some l → l.Perm (atR W.roads 0 h)
  take : ∀ (h : Nat) (l : List Nat), W.takes[h]? = some l → l.Perm (atR W.roads 1 h)
theorem atR_lt {rs : List Road} {s h k : Nat} (hk : k ∈ atR rs s h) : k < rs.length := by
  unfold atR at hk
  obtain ⟨⟨x, j⟩, h1, rfl⟩ := List.mem_map.mp hk
  have h2 := (List.mem_filter.mp h1).1
  have h3 := List.mem_zipIdx h2
  simp at h3
  omega
theorem zip_sorted {α : Type} : ∀ (xs : List α) (n : Nat) (p : α × Nat → Bool), (((xs.zipIdx n).filter p).map (·.2)).Pairwise (· < ·) ∧ ∀ k ∈ ((xs.zipIdx n).filter p).map (·.2), n ≤ k
  | [], n, p => by simp
  | x :: xs, n, p => by
    obtain ⟨h1, h2⟩ := zip_sorted xs (n + 1) p
    rw [List.zipIdx_cons, List.filter_cons]
    by_cases c : p (x, n) = true
    · rw [if_pos c, List.map_cons]
      refine ⟨List.pairwise_cons.mpr ⟨fun k hk => by have := h2 k hk; show n < k; omega, h1⟩, fun k hk => ?_⟩
      rcases List.mem_cons.mp hk with e | e
      · rw [e]; exact Nat.le_refl _
      · have := h2 k e; omega
    · rw [if_neg c]
      exact ⟨h1, fun k hk => by have := h2 k hk; omega⟩
theorem atR_sorted (rs : List Road) (s h : Nat) : (atR rs s h).Pairwise (· < ·) := (zip_sorted rs 0 _).1
theorem sort_perm {l m : List Nat} (p : l.Perm m) (hm : m.Pairwise (· < ·)) : sortI (l.map fun (n : Nat) => (n : Int)) = m.map fun (n : Nat) => (n : Int) := by
  refine @sorted_eq kk0 _ _ ((@sortI_perm kk0 _).trans (p.map _)) (@sortI_sorted kk0 _) ?_
  rw [List.pairwise_map]
  exact hm.imp fun h => by omega
end Uv

namespace Uv
open PySem PySem.Spec PyProof.Rows L2
theorem ok_app {a b : Str} (ha : PyData.strOk a = true) (hb : PyData.strOk b = true) : PyData.strOk (a ++ b) = true := by
  show ((a.cps ++ b.cps).all _) = true
  rw [Array.all_append]
  exact Bool.and_eq_true_iff.mpr ⟨ha, hb⟩
theorem ok_ofS (x : String) : PyData.strOk (Str.ofString x) = true := by
  rw [Str.ofString_eq_toList]
  unfold PyData.strOk
  simp only [List.all_toArray, List.all_map, List.all_eq_true]
  intro c _
  have := c.valid
  simp only [Function.comp_apply, decide_eq_true_eq]
  have h : c.toNat = c.val.toNat := rfl
  rcases this with h1 | h1
  · omega
  · omega
theorem ok_join {sep : Str} (hs : PyData.strOk sep = true) : ∀ {ts : List Str}, (∀ t ∈ ts, PyData.strOk t = true) → PyData.strOk (Str.join sep ts) = true
  | [], _ => by simp [Str.join, Str.empty, PyData.strOk]
  | [t], h => h t (List.mem_cons_self ..)
  | t :: u :: r, h => by
    show PyData.strOk (t ++ sep ++ Str.join sep (u :: r)) = true
    exact ok_app (ok_app (h t (List.mem_cons_self ..)) hs) (ok_join hs fun x hx => h x (List.mem_cons_of_mem _ hx))
theorem ok_from : ∀ {ts : List Str} {k : Nat} {acc : Str}, PyData.strOk acc = true → (∀ t ∈ ts, PyData.strOk t = true) → PyData.strOk (textFrom k acc ts) = true
  | [], _, _, ha, _ => ha
  | t :: r, k, acc, ha, h => by
    show PyData.strOk (textFrom (k + 1) _ r) = true
    exact ok_from (ok_app (ok_app ha (ok_ofS _)) (h t (List.mem_cons_self ..))) fun x hx => h x (List.mem_cons_of_mem _ hx)
structure Sho (k n : Nat) (d : PD) : Prop where
  sh : d.showable = true
  nd : scrF d = true
  dp : d.depth ≤ k
  ln : d.shown.length ≤ n
  ok : PyData.strOk d.shown = true
section
variable {k n : Nat} {d : PD} {ds : List PD}
theorem Sho.mono {k' n' : Nat} (h : Sho k n d) (hk : k ≤ k') (hn : n ≤ n') : Sho k' n' d := ⟨h.sh, h.nd, Nat.le_trans h.dp hk, Nat.le_trans h.ln hn, h.ok⟩
theorem Sho.non : Sho k 5 .none := ⟨rfl, rfl, Nat.zero_le _, by decide, ok_ofS _⟩
theorem Sho.int {i : Int} (h : i.natAbs < 10 ^ 40) : Sho k 41 (.int i) := by
  refine ⟨?_, rfl, Nat.zero_le _, ?_, ok_ofS _⟩
  · rw [PyData.showable, decide_eq_true_eq]
    by_cases c : i.natAbs = 0
    · rw [c]; decide
    · have : i.natAbs.log2 < 140 := (Nat.log2_lt c).mpr (Nat.lt_of_lt_of_le h (by decide))
      omega
  · show (Str.ofString (toString i)).length ≤ 41
    rw [PySem.ofString_length]
    exact int_text_length_le10 (k := 40) (by decide) h
theorem all_show (h : ∀ d ∈ ds, PyData.showable d = true) : PyData.showableAll ds = true := by
  induction ds with
  | nil => rfl
  | cons d ds ih => rw [PyData.showableAll, h d (List.mem_cons_self ..), ih fun x hx => h x (List.mem_cons_of_mem _ hx)]; rfl
theorem all_noD (h : ∀ d ∈ ds, scrF d = true) : scrFs ds = true := by
  induction ds with
  | nil => rfl
  | cons d ds ih => rw [scrFs, h d (List.mem_cons_self ..), ih fun x hx => h x (List.mem_cons_of_mem _ hx)]; rfl
theorem all_depth (h : ∀ d ∈ ds, PyData.depth d ≤ n) : PyData.depthAll ds ≤ n := by
  induction ds with
  | nil => exact Nat.zero_le _
  | cons d ds ih =>
    have h1 := h d (List.mem_cons_self ..)
    have h2 := ih fun x hx => h x (List.mem_cons_of_mem _ hx)
    rw [PyData.depthAll]
    omega
theorem all_shown (h : ∀ d ∈ ds, PyData.strOk d.shown = true) : ∀ t ∈ PyData.shownAll ds, PyData.strOk t = true := by
  induction ds with
  | nil => intro t ht; exact nomatch ht
  | cons d ds ih =>
    intro t ht
    rw [PyData.shownAll] at ht
    rcases List.mem_cons.mp ht with e | e
    · rw [e]; exact h d (List.mem_cons_self ..)
    · exact ih (fun x hx => h x (List.mem_cons_of_mem _ hx)) t e
theorem all_len (h : ∀ d ∈ ds, d.shown.length ≤ n) : ((PyData.shownAll ds).map (·.length)).sum + 2 * (PyData.shownAll ds).length ≤ ds.length * (n + 2) := by
  induction ds with
  | nil => exact Nat.zero_le _
  | cons d ds ih =>
    have h1 := h d (List.mem_cons_self ..)
    have h2 := ih fun x hx => h x (List.mem_cons_of_mem _ hx)
    rw [PyData.shownAll]
    simp only [List.map_cons, List.sum_cons, List.length_cons, Nat.succ_mul]
    omega
theorem Sho.tup {L : Nat} (h : ∀ d ∈ ds, Sho k n d) (hl : ds.length ≤ L) : Sho (k + 1) (L * (n + 2) + 3) (.tuple ds) := by
  refine ⟨all_show fun d hd => (h d hd).sh, all_noD fun d hd => (h d hd).nd, Nat.succ_le_succ (all_depth fun d hd => (h d hd).dp), ?_, ?_⟩
  · have h1 := tupleText_len_le (PyData.shownAll ds)
    have h2 := all_len fun d hd => (h d hd).ln
    have h3 := Nat.mul_le_mul_right (n + 2) hl
    show (tupleText (PyData.shownAll ds)).length ≤ _
    omega
  · exact ok_app (ok_app (ok_ofS _) (ok_join (ok_ofS _) (all_shown fun d hd => (h d hd).ok))) (ok_ofS _)
theorem Sho.lst {L : Nat} (h : ∀ d ∈ ds, Sho k n d) (hl : ds.length ≤ L) : Sho (k + 1) (L * (n + 2) + 3) (.list ds) := by
  refine ⟨all_show fun d hd => (h d hd).sh, all_noD fun d hd => (h d hd).nd, Nat.succ_le_succ (all_depth fun d hd => (h d hd).dp), ?_, ?_⟩
  · have h1 := listText_len_le (PyData.shownAll ds)
    have h2 := all_len fun d hd => (h d hd).ln
    have h3 := Nat.mul_le_mul_right (n + 2) hl
    show (listText (PyData.shownAll ds)).length ≤ _
    omega
  · exact ok_app (ok_from (ok_ofS _) (all_shown fun d hd => (h d hd).ok)) (ok_ofS _)
theorem Sho.nat {j : Nat} (h : j < 10 ^ 40) : Sho k 41 (natD j) := Sho.int (by show (j : Int).natAbs < _; omega)
theorem Sho.can (h : Sho 60 10000000 d) : CanShow d := ⟨h.sh, h.nd, h.dp, Nat.le_trans h.ln (by rw [sizeLine_eq]; decide)⟩
theorem rp_of (h : Sho 60 10000000 d) : reprP d = some (.str d.shown) := by
  unfold reprP
  rw [if_pos h.can]
theorem ne_str {x : Str} (h : PyData.strOk x = true) : neP (.str x) (.str x) = some (.bool false) := by
  have e : SeqAt.shaped (.str x) = true := by
    unfold SeqAt.shaped
    rw [show PyData.canLay0 (.str x) = PyData.strOk x by simp [PyData.canLay0], h]
    rfl
  unfold neP
  rw [if_pos ⟨e, e⟩]
  simp [PyData.eqv]
theorem ne_shown (h : Sho 60 10000000 d) : neP (.str d.shown) (.str d.shown) = some (.bool false) := ne_str h.ok
structure Lay (k : Nat) (d : PD) : Prop where
  cl : d.canLay0 = true
  dp : d.depth ≤ k
theorem all_lay (h : ∀ d ∈ ds, PyData.canLay0 d = true) : PyData.canLayAll0 ds = true := by
  induction ds with
  | nil => rfl
  | cons d ds ih => rw [PyData.canLayAll0, h d (List.mem_cons_self ..), ih fun x hx => h x (List.mem_cons_of_mem _ hx)]; rfl
theorem Lay.non : Lay k .none := ⟨rfl, Nat.zero_le _⟩
theorem Lay.int {i : Int} : Lay k (.int i) := ⟨rfl, Nat.zero_le _⟩
theorem Lay.tup (h : ∀ d ∈ ds, Lay k d) : Lay (k + 1) (.tuple ds) := ⟨all_lay fun d hd => (h d hd).cl, Nat.succ_le_succ (all_depth fun d hd => (h d hd).dp)⟩
theorem Lay.lst (h : ∀ d ∈ ds, Lay k d) : Lay (k + 1) (.list ds) := ⟨all_lay fun d hd => (h d hd).cl, Nat.succ_le_succ (all_depth fun d hd => (h d hd).dp)⟩
theorem Lay.mono {k' : Nat} (h : Lay k d) (hk : k ≤ k') : Lay k' d := ⟨h.cl, Nat.le_trans h.dp hk⟩
theorem Lay.sh (h : Lay 60 d) : SeqAt.shaped d = true := by
  unfold SeqAt.shaped
  rw [h.cl, Bool.true_and, decide_eq_true_eq]
  exact Nat.le_trans h.dp (by decide)
theorem Lay.map {α : Type} {f : α → PD} {l : List α} (h : ∀ x, Lay k (f x)) : ∀ d ∈ l.map f, Lay k d := fun d hd => by obtain ⟨x, _, rfl⟩ := List.mem_map.mp hd; exact h x
theorem Lay.natsL {l : List Nat} : Lay (k + 1) (.list (l.map natD)) := Lay.lst (Lay.map fun _ => Lay.int)
theorem eqP_lay {e : PD} (h : Lay 60 d) (h' : Lay 60 e) : eqP d e = some (.bool (PyData.eqv d e)) := by unfold eqP; rw [if_pos ⟨h.sh, h'.sh⟩]
theorem neP_lay {e : PD} (h : Lay 60 d) (h' : Lay 60 e) : neP d e = some (.bool (!PyData.eqv d e)) := by unfold neP; rw [if_pos ⟨h.sh, h'.sh⟩]
theorem eqv_ints {l m : List Int} : PyData.eqvAll (l.map PyData.int) (m.map PyData.int) = (l == m) := by
  induction l generalizing m with
  | nil => cases m <;> rfl
  | cons x xs ih => cases m with
    | nil => rfl
    | cons y ys => simp [PyData.eqvAll, PyData.eqv, ih]
end
end Uv

namespace Uv
open PySem PySem.Spec PyProof.Rows L2
structure Tie where
  g : Nat
  t : Nat
  r : Int
structure Seat where
  much : Int
  order : List Nat
structure Fair where
  ties : List Tie
  givers : List Seat
  takers : List Seat
def intsD (l : List Int) : PD := .tuple (l.map PyData.int)
def seatD (x : Seat) : PD := .tuple [.int x.much, natsD x.order]
section
variable {ρ : Env} {v : VE}
@[simp] theorem q_cat {xs ys : List PD} : catP (.list xs) (.list ys) = grd (xs.length + ys.length ≤ 100000) (some (.list (xs ++ ys))) := by unfold catP; simp only [grd_ite]
@[simp] theorem q_mul_l {xs : List PD} {j : Int} : mulP (.list xs) (.int j) = grd (0 ≤ j ∧ j ≤ 100000 ∧ xs.length * j.toNat ≤ 100000) (some (.list (List.replicate j.toNat xs).flatten)) := by unfold mulP; simp only [grd_ite]
@[simp] theorem q_mulU_i {i j : Int} : mulU (.int i) (.int j) = grd (In64 i ∨ In64 j) (some (.int (i * j))) := by show mulP (.int i) (.int j) = _; exact q_mul
@[simp] theorem q_mulU_l {xs : List PD} {j : Int} : mulU (.list xs) (.int j) = grd (0 ≤ j ∧ j ≤ 100000 ∧ xs.length * j.toNat ≤ 100000) (some (.list (List.replicate j.toNat xs).flatten)) := by show mulP (.list xs) (.int j) = _; exact q_mul_l
@[simp] theorem q_mulU_t {xs : List PD} {j : Int} : mulU (.tuple xs) (.int j) = grd (xs ≠ [] ∧ 0 ≤ j ∧ j ≤ 1000 ∧ xs.length ≤ 1000) (some (.tuple (List.replicate j.toNat xs).flatten)) := by unfold mulU; simp only [grd_ite]
@[simp] theorem q_three {a b c : Cel} : three [a, b, c] = some (a, b, c) := (rfl)
@[simp] theorem q_sPar3 {i j k : Nat} {as : XWC} : sPar3 i j k as ρ = (as ρ).bind fun x => (three x.1).bind fun c => grd (i < x.2.length ∧ j < x.2.length ∧ k < x.2.length) (some (.nxt (((x.2.set i (toSl c.1)).set j (toSl c.2.1)).set k (toSl c.2.2)))) := by unfold sPar3; simp only [grd_ite]
end
section
variable {l : List Nat} {m : List Int} {W : Web} {F : Fair} {x : Road} {t : Tie} {s : Seat} {i : Int} {k : Nat}
@[simp] theorem n_seq : seqP (natsD l) = some (l.map natD) := (rfl)
@[simp] theorem n_len : lenP (natsD l) = some (natD l.length) := by unfold natsD; simp
@[simp] theorem n_ix : ixP (natsD l) (.int i) = atI (l.map natD) i := (rfl)
@[simp] theorem n_tup : tupP (natsD l) = some (natsD l) := (rfl)
@[simp] theorem n_full : full (natsD l) = false := (rfl)
@[simp] theorem n_isT : isTy .tuple (natsD l) = true := (rfl)
@[simp] theorem n_enum : enumP [natsD l] = some (pairsD (l.map natD)) := (rfl)
@[simp] theorem n_none : isNone (natsD l) = false := (rfl)
@[simp] theorem n_addR {ds : List PD} : addP (.tuple ds) (natsD l) = grd (ds.length + l.length ≤ 100000) (some (.tuple (ds ++ l.map natD))) := by
  unfold natsD
  rw [q_add_t, List.length_map]
theorem flats_of {ds : List PD} (h : ∀ d ∈ ds, flat d = true) : flats ds = true := by
  induction ds with
  | nil => rfl
  | cons d ds ih => rw [q_flats_cons, h d (List.mem_cons_self ..), ih fun x hx => h x (List.mem_cons_of_mem _ hx)]; rfl
theorem flats_map {α : Type} {f : α → PD} {l : List α} (h : ∀ x, flat (f x) = true) : flats (l.map f) = true := flats_of fun d hd => by obtain ⟨x, _, rfl⟩ := List.mem_map.mp hd; exact h x
@[simp] theorem n_flat : flat (natsD l) = true := by unfold natsD; rw [q_flat_t]; exact flats_map fun _ => q_flat_i
@[simp] theorem n_flats : flats (l.map natD) = true := flats_map fun _ => q_flat_i
@[simp] theorem i_flats : flats (m.map PyData.int) = true := flats_map fun _ => q_flat_i
@[simp] theorem i_seq : seqP (intsD m) = some (m.map PyData.int) := (rfl)
@[simp] theorem i_len : lenP (intsD m) = some (natD m.length) := by unfold intsD; simp
@[simp] theorem i_ix : ixP (intsD m) (.int i) = atI (m.map PyData.int) i := (rfl)
@[simp] theorem i_tup : tupP (intsD m) = some (intsD m) := (rfl)
@[simp] theorem i_full : full (intsD m) = false := (rfl)
@[simp] theorem i_isT : isTy .tuple (intsD m) = true := (rfl)
@[simp] theorem i_enum : enumP [intsD m] = some (pairsD (m.map PyData.int)) := (rfl)
@[simp] theorem i_none : isNone (intsD m) = false := (rfl)
@[simp] theorem i_flat : flat (intsD m) = true := by unfold intsD; rw [q_flat_t]; exact i_flats
@[simp] theorem w_seq : seqP (webD W) = some [.tuple (W.roads.map roadD), .tuple (W.gives.map natsD), .tuple (W.takes.map natsD)] := (rfl)
@[simp] theorem w_0 : ixP (webD W) (.int 0) = some (.tuple (W.roads.map roadD)) := (rfl)
@[simp] theorem w_1 : ixP (webD W) (.int 1) = some (.tuple (W.gives.map natsD)) := (rfl)
@[simp] theorem w_2 : ixP (webD W) (.int 2) = some (.tuple (W.takes.map natsD)) := (rfl)
@[simp] theorem w_full : full (webD W) = false := (rfl)
@[simp] theorem w_none : isNone (webD W) = false := (rfl)
@[simp] theorem r_seq : seqP (roadD x) = some [endD x.b, endD x.e, .int x.r] := (rfl)
@[simp] theorem r_0 : ixP (roadD x) (.int 0) = some (endD x.b) := (rfl)
@[simp] theorem r_1 : ixP (roadD x) (.int 1) = some (endD x.e) := (rfl)
@[simp] theorem r_2 : ixP (roadD x) (.int 2) = some (.int x.r) := (rfl)
@[simp] theorem e_none {o : Option Nat} : isNone (endD o) = o.isNone := by cases o <;> rfl
@[simp] theorem e_flat {o : Option Nat} : flat (endD o) = true := by cases o <;> simp [endD]
@[simp] theorem r_flat : flat (roadD x) = true := by simp [roadD]
theorem eq_end {o : Option Nat} {h : Nat} : eqP (endD o) (natD h) = some (.bool (o == some h)) := by
  cases o with
  | none => rfl
  | some n => simp [endD]; exact Bool.eq_iff_iff.mpr (by simp; omega)
@[simp] theorem s_seq : seqP (seatD s) = some [.int s.much, natsD s.order] := (rfl)
@[simp] theorem s_0 : ixP (seatD s) (.int 0) = some (.int s.much) := (rfl)
@[simp] theorem s_1 : ixP (seatD s) (.int 1) = some (natsD s.order) := (rfl)
@[simp] theorem s_full : full (seatD s) = false := (rfl)
@[simp] theorem s_isT : isTy .tuple (seatD s) = true := (rfl)
@[simp] theorem s_len : lenP (seatD s) = some (natD 2) := (rfl)
@[simp] theorem s_flat : flat (seatD s) = true := by simp [seatD]
end
section
variable {i : Int} {b : Bool} {x : Str} {ds : List PD}
@[simp] theorem ty_ii : isTy .int (.int i) = true := (rfl)
@[simp] theorem ty_bi : isTy .bool (.int i) = false := (rfl)
@[simp] theorem ty_ti : isTy .tuple (.int i) = false := (rfl)
@[simp] theorem ty_ib : isTy .int (.bool b) = true := (rfl)
@[simp] theorem ty_bb : isTy .bool (.bool b) = true := (rfl)
@[simp] theorem ty_tt : isTy .tuple (.tuple ds) = true := (rfl)
@[simp] theorem ty_it : isTy .int (.tuple ds) = false := (rfl)
@[simp] theorem ty_bt : isTy .bool (.tuple ds) = false := (rfl)
@[simp] theorem ty_st : isTy .str (.tuple ds) = false := (rfl)
@[simp] theorem ty_in : isTy .int .none = false := (rfl)
@[simp] theorem ty_bn : isTy .bool .none = false := (rfl)
@[simp] theorem ty_tn : isTy .tuple .none = false := (rfl)
@[simp] theorem ty_sn : isTy .str .none = false := (rfl)
@[simp] theorem ty_si : isTy .str (.int i) = false := (rfl)
@[simp] theorem ty_sb : isTy .str (.bool b) = false := (rfl)
@[simp] theorem ty_tb : isTy .tuple (.bool b) = false := (rfl)
theorem q_all {α : Type} {f : α → Bool} {l : List α} : allP (.list (l.map fun x => .bool (f x))) = some (.bool (l.all f)) := by
  unfold allP boolsP
  simp only [unB_of, Option.bind_some, List.all_map]
  rfl
@[simp] theorem all_tt {α : Type} {l : List α} : (l.all fun _ => true) = true := List.all_eq_true.mpr fun _ _ => rfl
theorem q_sort {l : List Nat} : sortP (natsD l) = some (.list ((sortI (l.map fun (n : Nat) => (n : Int))).map PyData.int)) := by
  unfold natsD sortP
  simp only [unI_nats, Option.bind_some]
end
end Uv

namespace Uv
open PySem PySem.Spec PyProof.Rows L2
variable {ρ : Env}
@[simp] theorem q_mk_dic {l : List (Int × PD)} : (Sl.dic l).mk = none := (rfl)
@[simp] theorem q_vw_dic {l : List (Int × PD)} : (Sl.dic l).vw = none := (rfl)
end Uv

namespace Fn
open PySem PySem.Spec PyProof.Rows L2 Uv
@[irreducible] def X__law_deck_h : XS :=
    sSeq (sAsg (gName' 1) (wM (xLc (xiE (xVar 0)) (gvName 2) xYes (xCB (on1 absP) (xCons (xVar 2) xNil)) [2])))
    (sRetO (wOL (wcSub (wOM (xLc (xiE (xVar 1)) (gvName 2) (xB (xOp geP (xVar 2) (xOp powP (xC (.int 10)) (xC (.int 18))))) (xVar 2) [2])) (wcSub (wOM (xOp catP (xVar 1) (xLst (xCons (xOp addP (xCB (on1 lenP) (xCons (xVar 1) xNil)) (xC (.int 5))) xNil)))) (wcDat (wM (xC (.int 0))) wcNil)))))
@[irreducible] def F__law_deck_h : List PD → Option (List Cel) := runD 1 2 X__law_deck_h
@[irreducible] def X__law_next_b1 : XS :=
    sSeq (sAsg (gName' 2) (wV (xOp ixP (xOp ixP (xVar 0) (xC (.int 0))) (xC (.int 0)))))
    (sSeq (sIf (wMT (xB (xOp gtU (xVar 2) (xC (.int 0))))) (sSeq (sSetS 0 (xC (.int 0)) (xC (.int 0)) (wM (xOp divP (xVar 2) (xVar 1))))
    (sRet (wM (xOp modP (xVar 2) (xVar 1))))) sNext)
    (sPopS 0 (xC (.int 0)) (xC (.int 0))))
@[irreducible] def X__law_next : XS :=
    sSeq (sWhile fuel (wVT (xB (xOp neP (xOp ixP (xVar 0) (xC (.int 0))) (xLst xNil)))) X__law_next_b1)
    (sSeq (sSet 0 (xC (.int 2)) (wV (xOp addP (xOp ixP (xVar 0) (xC (.int 2))) (xC (.int 1)))))
    (sSeq (sAsg (gName' 3) (wV (xOp modP (xOp ixP (xOp ixP (xVar 0) (xC (.int 1))) (xOp modP (xOp ixP (xVar 0) (xC (.int 2))) (xCB (on1 lenP) (xCons (xOp ixP (xVar 0) (xC (.int 1))) xNil)))) (xC (.int 2147483647)))))
    (sSeq (sAsg (gName' 4) (wV (xOp addP (xOp addP (xOp mulU (xVar 3) (xOp addP (xC (.int 48271)) (xOp mulU (xC (.int 40692)) (xOp ixP (xVar 0) (xC (.int 2)))))) (xOp mulU (xOp mulU (xC (.int 69621)) (xOp ixP (xVar 0) (xC (.int 2)))) (xOp ixP (xVar 0) (xC (.int 2))))) (xC (.int 13)))))
    (sSeq (sAsg (gName' 4) (wM (xOp modP (xVar 4) (xC (.int 2147483629)))))
    (sRet (wM (xOp modP (xOp divP (xOp modP (xOp mulU (xVar 4) (xVar 4)) (xC (.int 2147483587))) (xC (.int 16))) (xVar 1))))))))
@[irreducible] def F__law_next : List Cel → List PD → Option (PD × List Cel) := runW 1 3 X__law_next
@[irreducible] def X__law_sign_b : XS :=
    sSeq (sAsg (gName' 1) (wM (xC (.str " -,0123456789\nadehgiknorstuv:x"))))
    (sRet (wOp ixT (wM (xVar 1)) (wCallK 0 F__law_next (wCons (wM (xCB (on1 lenT) (xCons (xVar 1) xNil))) wNil))))
@[irreducible] def F__law_sign_b : List Cel → List PD → Option (PD × List Cel) := runW 0 1 X__law_sign_b
@[irreducible] def X__law_spoilt_c : XS :=
    sSeq (sAsg (gName' 2) (wCallK 0 F__law_next (wCons (wM (xC (.int 9))) wNil)))
    (sSeq (sAsg (gName' 3) (wCallK 0 F__law_next (wCons (wM (xOp addX (xCB (on1 lenT) (xCons (xVar 1) xNil)) (xC (.int 1)))) wNil)))
    (sSeq (sAsg (gName' 4) (wCallK 0 F__law_sign_b wNil))
    (sSeq (sIf (wMT (xB (xOp ltP (xVar 2) (xC (.int 4))))) (sSeq (sAsg (gName' 5) (wM (xLst (xCons (xOp addX (xOp addX (xSlS (xVar 1) xNoPart (xPart (xVar 3))) (xVar 4)) (xSlS (xVar 1) (xPart (xVar 3)) xNoPart)) (xCons (xOp addX (xOp addX (xSlS (xVar 1) xNoPart (xPart (xVar 3))) (xVar 4)) (xSlS (xVar 1) (xPart (xOp addX (xVar 3) (xC (.int 1)))) xNoPart)) xNil)))))
    (sRet (wM (xOp ixP (xOp addX (xVar 5) (xLst (xCons (xOp addX (xSlS (xVar 1) xNoPart (xPart (xVar 3))) (xSlS (xVar 1) (xPart (xOp addX (xVar 3) (xC (.int 1)))) xNoPart)) (xCons (xSlS (xVar 1) xNoPart (xPart (xVar 3))) xNil)))) (xVar 2))))) sNext)
    (sSeq (sAsg (gName' 6) (wM (xOp splitT (xVar 1) (xC (.str "\n")))))
    (sSeq (sPar 7 8 (wcDat (wCallK 0 F__law_next (wCons (wM (xCB (on1 lenP) (xCons (xVar 6) xNil))) wNil)) (wcDat (wCallK 0 F__law_next (wCons (wM (xCB (on1 lenP) (xCons (xVar 6) xNil))) wNil)) wcNil)))
    (sSeq (sIf (wMT (xB (xOp eqP (xVar 2) (xC (.int 4))))) (sRet (wM (xOp joinT (xC (.str "\n")) (xOp addX (xOp addX (xSl (xVar 6) xNoPart (xPart (xVar 7))) (xSl (xVar 6) (xPart (xVar 7)) (xPart (xOp addX (xVar 7) (xC (.int 1)))))) (xSl (xVar 6) (xPart (xVar 7)) xNoPart))))) sNext)
    (sSeq (sIf (wMT (xB (xOp eqP (xVar 2) (xC (.int 5))))) (sRet (wM (xOp joinT (xC (.str "\n")) (xOp addX (xSl (xVar 6) xNoPart (xPart (xVar 7))) (xSl (xVar 6) (xPart (xOp addX (xVar 7) (xC (.int 1)))) xNoPart))))) sNext)
    (sSeq (sIf (wMT (xB (xOp eqP (xVar 2) (xC (.int 6))))) (sRet (wM (xOp joinT (xC (.str "\n")) (xOp addX (xOp addX (xSl (xVar 6) xNoPart (xPart (xVar 7))) (xSl (xVar 6) (xPart (xVar 8)) (xPart (xOp addX (xVar 8) (xC (.int 1)))))) (xSl (xVar 6) (xPart (xOp addX (xVar 7) (xC (.int 1)))) xNoPart))))) sNext)
    (sSeq (sAsg (gName' 9) (wM (xOp splitT (xOp ixP (xVar 6) (xVar 7)) (xC (.str " ")))))
    (sSeq (sAsg (gName' 10) (wCallK 0 F__law_next (wCons (wM (xCB (on1 lenP) (xCons (xVar 9) xNil))) wNil)))
    (sSeq (sAsg (gName' 9) (wM (xOp ixP (xLst (xCons (xOp addX (xOp addX (xSl (xVar 9) xNoPart (xPart (xVar 10))) (xSl (xVar 9) (xPart (xVar 10)) (xPart (xOp addX (xVar 10) (xC (.int 1)))))) (xSl (xVar 9) (xPart (xVar 10)) xNoPart)) (xCons (xOp addX (xSl (xVar 9) xNoPart (xPart (xVar 10))) (xSl (xVar 9) (xPart (xOp addX (xVar 10) (xC (.int 1)))) xNoPart)) xNil))) (xOp subP (xVar 2) (xC (.int 7))))))
    (sRet (wM (xOp joinT (xC (.str "\n")) (xOp addX (xOp addX (xSl (xVar 6) xNoPart (xPart (xVar 7))) (xLst (xCons (xOp joinT (xC (.str " ")) (xVar 9)) xNil))) (xSl (xVar 6) (xPart (xOp addX (xVar 7) (xC (.int 1)))) xNoPart))))))))))))))))
@[irreducible] def F__law_spoilt_c : List Cel → List PD → Option (PD × List Cel) := runW 1 9 X__law_spoilt_c
@[irreducible] def X__law_number_in : XS :=
    sSeq (sIf (wMT (xTOr (xB (xOp eqP (xVar 0) (xC (.str "")))) (xTOr (xB (xOp gtU (xCB (on1 lenT) (xCons (xVar 0) xNil)) (xC (.int 13)))) (xB (xOp neP (xLc (xiS (xVar 0)) (gvName 2) (xB (xOp notinS (xVar 2) (xC (.str "0123456789")))) (xVar 2) [2]) (xLst xNil)))))) (sRet (wM (xC .none))) sNext)
    (sSeq (sIf (wMT (xTOr (xTAnd (xB (xOp eqP (xOp ixT (xVar 0) (xC (.int 0))) (xC (.str "0")))) (xB (xOp neP (xVar 0) (xC (.str "0"))))) (xB (xOp gtU (xCB (on1 intT) (xCons (xVar 0) xNil)) (xVar 1))))) (sRet (wM (xC .none))) sNext)
    (sRet (wM (xCB (on1 intT) (xCons (xVar 0) xNil)))))
@[irreducible] def F__law_number_in : List PD → Option PD := runP 2 1 X__law_number_in
@[irreducible] def X__law_end_in : XS :=
    sRet (wM (xIf (xB (xOp eqP (xVar 0) (xC (.str "-")))) (xUn negP (xC (.int 1))) (xCB F__law_number_in (xCons (xVar 0) (xCons (xOp subP (xVar 1) (xC (.int 1))) xNil)))))
@[irreducible] def F__law_end_in : List PD → Option PD := runP 2 0 X__law_end_in
@[irreducible] def X__law_line_right_b : XS :=
    sSeq (sAsg (gName' 4) (wM (xOp splitT (xVar 0) (xC (.str " ")))))
    (sSeq (sIf (wVT (xB (xOp eqP (xOp ixP (xVar 1) (xC (.int 0))) (xC (.int 0))))) (sSeq (sAsg (gName' 5) (wM (xCB F__law_number_in (xCons (xOp ixP (xVar 4) (xUn negP (xC (.int 1)))) (xCons (xC (.int 8)) xNil)))))
    (sSeq (sIf (wMT (xTOr (xB (xOp neP (xCB (on1 lenP) (xCons (xVar 4) xNil)) (xC (.int 2)))) (xTOr (xB (xOp neP (xOp ixP (xVar 4) (xC (.int 0))) (xC (.str "houses")))) (xTOr (xB (xOp isU (xVar 5) (xC .none))) (xB (xOp eqP (xVar 5) (xC (.int 0)))))))) (sRet (wM (xC (.bool false)))) sNext)
    (sSeq (sSet 1 (xC (.int 0)) (wM (xVar 5)))
    (sRet (wM (xC (.bool true))))))) sNext)
    (sSeq (sIf (wMT (xB (xOp eqP (xOp ixP (xVar 4) (xC (.int 0))) (xC (.str "road"))))) (sSeq (sIf (wVT (xTOr (xB (xOp neP (xCB (on1 lenP) (xCons (xVar 4) xNil)) (xC (.int 4)))) (xTOr (xB (xOp neP (xVar 3) (xLst xNil))) (xB (xOp eqP (xCB (on1 lenP) (xCons (xVar 2) xNil)) (xC (.int 20))))))) (sRet (wM (xC (.bool false)))) sNext)
    (sSeq (sOwn 6 (wOV (xLc (xiE (xSl (xVar 4) (xPart (xC (.int 1))) (xPart (xC (.int 3))))) (gvName 10) xYes (xCB F__law_end_in (xCons (xVar 10) (xCons (xOp ixP (xVar 1) (xC (.int 0))) xNil))) [10])))
    (sFz 6 (sSeq (sIf (wMT (xTOr (xB (xOp inP (xC .none) (xVar 6))) (xTOr (xB (xOp eqP (xOp ixP (xVar 6) (xC (.int 0))) (xOp ixP (xVar 6) (xC (.int 1))))) (xB (xOp isU (xCB F__law_number_in (xCons (xOp ixP (xVar 4) (xC (.int 3))) (xCons (xOp powP (xC (.int 10)) (xC (.int 12))) xNil))) (xC .none)))))) (sRet (wM (xC (.bool false)))) sNext)
    (sSeq (sApp 2 (wM (xVar 6)))
    (sRet (wM (xC (.bool true))))))))) sNext)
    (sSeq (sIf (wVT (xTOr (xB (xOp eqP (xVar 2) (xLst xNil))) (xTOr (xB (xOp eqP (xCB (on1 lenP) (xCons (xVar 3) xNil)) (xOp mulU (xC (.int 2)) (xOp ixP (xVar 1) (xC (.int 0)))))) (xB (xOp neP (xCB (on1 lenP) (xCons (xVar 4) xNil)) (xC (.int 2))))))) (sRet (wM (xC (.bool false)))) sNext)
    (sSeq (sAsg (gTup' 2 (gCons' (gName' 7) (gCons' (gName' 8) gNil'))) (wV (xTup (xCons (xOp divP (xCB (on1 lenP) (xCons (xVar 3) xNil)) (xOp ixP (xVar 1) (xC (.int 0)))) (xCons (xOp modP (xCB (on1 lenP) (xCons (xVar 3) xNil)) (xOp ixP (xVar 1) (xC (.int 0)))) xNil)))))
    (sSeq (sAsg (gName' 9) (wM (xIf (xB (xOp eqP (xOp ixP (xVar 4) (xC (.int 1))) (xC (.str "-")))) (xLst xNil) (xLc (xiE (xOp splitT (xOp ixP (xVar 4) (xC (.int 1))) (xC (.str ",")))) (gvName 10) xYes (xCB F__law_number_in (xCons (xVar 10) (xCons (xC (.int 19)) xNil))) [10]))))
    (sSeq (sIf (wMT (xTOr (xB (xOp neP (xOp ixP (xVar 4) (xC (.int 0))) (xOp ixP (xLst (xCons (xC (.str "give")) (xCons (xC (.str "take")) xNil))) (xVar 7)))) (xB (xOp inP (xC .none) (xVar 9))))) (sRet (wM (xC (.bool false)))) sNext)
    (sSeq (sIf (wVT (xB (xOp neP (xCB (on1 sortP) (xCons (xVar 9) xNil)) (xLc (xiA rngP (xCons (xCB (on1 lenP) (xCons (xVar 2) xNil)) xNil)) (gvName 11) (xB (xOp eqP (xOp ixP (xOp ixP (xVar 2) (xVar 11)) (xVar 7)) (xVar 8))) (xVar 11) [11])))) (sRet (wM (xC (.bool false)))) sNext)
    (sSeq (sApp 3 (wM (xVar 9)))
    (sRet (wM (xC (.bool true))))))))))))
@[irreducible] def F__law_line_right_b : List Sl → List PD → Option (PD × List Sl) := runC 3 1 8 X__law_line_right_b
@[irreducible] def X__law_text_fault_b_b1 : XS :=
    sIf (wTNot (wB (wCallC [3, 4, 5] F__law_line_right_b (xVar 7)))) (sFz 4 (sFz 5 (sFz 3 (sRet (wM (xVar 6)))))) sNext
@[irreducible] def X__law_text_fault_b : XS :=
    sSeq (sIf (wMT (xTNot (xB (xIsi .str (xVar 0))))) (sRet (wM (xC .none))) sNext)
    (sSeq (sAsg (gName' 1) (wM (xOp splitT (xVar 0) (xC (.str "\n")))))
    (sSeq (sAsg (gName' 2) (wM (xOp addP (xSl (xVar 1) xNoPart (xPart (xUn negP (xC (.int 1))))) (xOp mulU (xSl (xVar 1) (xPart (xUn negP (xC (.int 1)))) xNoPart) (xCB (on1 toIntP) (xCons (xOp neP (xOp ixP (xVar 1) (xUn negP (xC (.int 1)))) (xC (.str ""))) xNil))))))
    (sSeq (sPar3 3 4 5 (wcSub (wOL (wcDat (wM (xC (.int 0))) wcNil)) (wcSub (wOL wcNil) (wcSub (wOL wcNil) wcNil))))
    (sSeq (sFor (wiA enumP (wCons (wM (xVar 2)) wNil)) (gTup' 2 (gCons' (gName' 6) (gCons' (gName' 7) gNil'))) X__law_text_fault_b_b1)
    (sFz 4 (sFz 5 (sFz 3 (sSeq (sIf (wMT (xTOr (xB (xOp eqP (xOp ixP (xVar 3) (xC (.int 0))) (xC (.int 0)))) (xTOr (xB (xOp ltP (xCB (on1 lenP) (xCons (xVar 5) xNil)) (xOp mulU (xC (.int 2)) (xOp ixP (xVar 3) (xC (.int 0)))))) (xB (xOp neP (xOp ixP (xVar 1) (xUn negP (xC (.int 1)))) (xC (.str ""))))))) (sRet (wM (xCB (on1 lenP) (xCons (xVar 2) xNil)))) sNext)
    (sRet (wM (xUn negP (xC (.int 1)))))))))))))
@[irreducible] def F__law_text_fault_b : List PD → Option PD := runP 1 7 X__law_text_fault_b
@[irreducible] def X_check_text_c : XS :=
    sIf (wMT (xTNot (xB (xIsi .str (xVar 0))))) (sRz 16 (xCons (xC .none) xNil)) sNext
@[irreducible] def F_check_text_c : List PD → Option PD := runP 1 0 X_check_text_c
@[irreducible] def X_houses_line : XS :=
    sRet (wM (xJs [(xC (.str "houses ")), xUn fmtT (xVar 0)] Str.empty))
@[irreducible] def F_houses_line : List PD → Option PD := runP 1 0 X_houses_line
@[irreducible] def X_read_houses_c_b1 : XS :=
    sIf (wMT (xB (xOp eqP (xOp ixP (xVar 0) (xC (.int 0))) (xCB F_houses_line (xCons (xVar 1) xNil))))) (sRet (wM (xVar 1))) sNext
@[irreducible] def X_read_houses_c : XS :=
    sSeq (sFor (wiA rng2P (wCons (wM (xC (.int 1))) (wCons (wM (xOp addP (xC (.int 8)) (xC (.int 1)))) wNil))) (gName' 1) X_read_houses_c_b1)
    (sRz 16 (xCons (xC (.int 0)) xNil))
@[irreducible] def F_read_houses_c : List PD → Option PD := runP 1 1 X_read_houses_c
@[irreducible] def X_is_number : XS :=
    sRet (wM (xAnd (xIsi .int (xVar 0)) (xNot (xIsi .bool (xVar 0)))))
@[irreducible] def F_is_number : List PD → Option PD := runP 1 0 X_is_number
@[irreducible] def X_is_order : XS :=
    sRet (wM (xAnd (xIsi .tuple (xVar 0)) (xAnd (xCB (on1 allP) (xCons (xLc (xiE (xVar 0)) (gvName 2) xYes (xCB F_is_number (xCons (xVar 2) xNil)) [2]) xNil)) (xOp eqP (xCB (on1 sortP) (xCons (xVar 0) xNil)) (xVar 1)))))
@[irreducible] def F_is_order : List PD → Option PD := runP 2 1 X_is_order
@[irreducible] def X_order_line : XS :=
    sSeq (sAsg (gName' 2) (wM (xIf (xB (xOp gtU (xCB (on1 lenP) (xCons (xVar 1) xNil)) (xC (.int 0)))) (xOp joinT (xC (.str ",")) (xLc (xiE (xVar 1)) (gvName 3) xYes (xCB (on1 strP) (xCons (xVar 3) xNil)) [3])) (xC (.str "-")))))
    (sRet (wM (xJs [xUn fmtT (xVar 0), (xC (.str " ")), xUn fmtT (xVar 2)] Str.empty)))
@[irreducible] def F_order_line : List PD → Option PD := runP 2 2 X_order_line
@[irreducible] def X_number_in : XS :=
    sSeq (sIf (wMT (xTOr (xTNot (xB (xUn isascT (xVar 0)))) (xTOr (xTNot (xB (xUn isdigT (xVar 0)))) (xB (xOp gtU (xCB (on1 lenT) (xCons (xVar 0) xNil)) (xC (.int 13))))))) (sRet (wM (xC .none))) sNext)
    (sSeq (sIf (wMT (xTAnd (xB (xOp startsT (xVar 0) (xC (.str "0")))) (xB (xOp neP (xVar 0) (xC (.str "0")))))) (sRet (wM (xC .none))) sNext)
    (sRet (wM (xCB (on1 intT) (xCons (xVar 0) xNil)))))
@[irreducible] def F_number_in : List PD → Option PD := runP 1 0 X_number_in
@[irreducible] def X_roads_in : XS :=
    sSeq (sIf (wMT (xB (xOp eqP (xVar 0) (xC (.str "-"))))) (sRet (wM (xTup xNil))) sNext)
    (sSeq (sAsg (gName' 1) (wM (xCB (on1 tupP) (xCons (xLc (xiE (xOp splitT (xVar 0) (xC (.str ",")))) (gvName 2) xYes (xCB F_number_in (xCons (xVar 2) xNil)) [2]) xNil))))
    (sRet (wM (xIf (xB (xOp inP (xC .none) (xVar 1))) (xC .none) (xVar 1)))))
@[irreducible] def F_roads_in : List PD → Option PD := runP 1 2 X_roads_in
@[irreducible] def X_read_order_c : XS :=
    sSeq (sIf (wMT (xB (xOp ltP (xVar 1) (xCB (on1 lenP) (xCons (xVar 0) xNil))))) (sSeq (sAsg (gName' 4) (wM (xCB F_roads_in (xCons (xOp ixP (xOp splitT (xOp ixP (xVar 0) (xVar 1)) (xC (.str " "))) (xUn negP (xC (.int 1)))) xNil))))
    (sIf (wMT (xTAnd (xB (xCB F_is_order (xCons (xVar 4) (xCons (xVar 3) xNil)))) (xB (xOp eqP (xCB F_order_line (xCons (xVar 2) (xCons (xVar 4) xNil))) (xOp ixP (xVar 0) (xVar 1)))))) (sRet (wM (xVar 4))) sNext)) sNext)
    (sRz 16 (xCons (xVar 1) xNil))
@[irreducible] def F_read_order_c : List PD → Option PD := runP 4 1 X_read_order_c
@[irreducible] def X_read_orders_c : XS :=
    sRetZ (wZM (xCBz (on1 tupP) (xLcZ (xiA rngP (xCons (xVar 4) xNil)) (gvName 5) xYes (xCB F_read_order_c (xCons (xVar 0) (xCons (xOp addP (xVar 1) (xVar 5)) (xCons (xVar 2) (xCons (xLc (xiA enumP (xCons (xVar 3) xNil)) (gvTup 2 (gvCons (gvName 6) (gvCons (gvName 7) gvNil))) (xB (xOp eqP (xVar 7) (xVar 5))) (xVar 6) [6, 7]) xNil))))) [5])))
@[irreducible] def F_read_orders_c : List PD → Option PD := runP 5 3 X_read_orders_c
@[irreducible] def X_is_number_to : XS :=
    sRet (wM (xAnd (xCB F_is_number (xCons (xVar 0) xNil)) (xChain leP leP (xC (.int 0)) (xVar 0) (xVar 1))))
@[irreducible] def F_is_number_to : List PD → Option PD := runP 2 0 X_is_number_to
@[irreducible] def X_is_end : XS :=
    sRet (wM (xOr (xOp isU (xVar 0) (xC .none)) (xCB F_is_number_to (xCons (xVar 0) (xCons (xOp subP (xVar 1) (xC (.int 1))) xNil)))))
@[irreducible] def F_is_end : List PD → Option PD := runP 2 0 X_is_end
@[irreducible] def X_is_tuple_of : XS :=
    sRet (wM (xAnd (xIsi .tuple (xVar 0)) (xChain leP leP (xVar 1) (xCB (on1 lenP) (xCons (xVar 0) xNil)) (xVar 2))))
@[irreducible] def F_is_tuple_of : List PD → Option PD := runP 3 0 X_is_tuple_of
@[irreducible] def X_road_fault : XS :=
    sSeq (sIf (wMT (xTNot (xB (xCB F_is_tuple_of (xCons (xVar 1) (xCons (xC (.int 3)) (xCons (xC (.int 3)) xNil))))))) (sRet (wM (xTup (xCons (xTup (xCons (xC (.int 0)) (xCons (xVar 0) xNil))) (xCons (xC (.str "road")) xNil))))) sNext)
    (sSeq (sAsg (gTup' 3 (gCons' (gName' 3) (gCons' (gName' 4) (gCons' (gName' 5) gNil')))) (wM (xVar 1)))
    (sSeq (sIf (wMT (xTNot (xB (xCB F_is_end (xCons (xVar 3) (xCons (xVar 2) xNil)))))) (sRet (wM (xTup (xCons (xTup (xCons (xC (.int 0)) (xCons (xVar 0) (xCons (xC (.int 0)) xNil)))) (xCons (xC (.str "begin")) xNil))))) sNext)
    (sSeq (sIf (wMT (xTNot (xB (xCB F_is_end (xCons (xVar 4) (xCons (xVar 2) xNil)))))) (sRet (wM (xTup (xCons (xTup (xCons (xC (.int 0)) (xCons (xVar 0) (xCons (xC (.int 1)) xNil)))) (xCons (xC (.str "end")) xNil))))) sNext)
    (sSeq (sIf (wMT (xB (xOp eqP (xVar 3) (xVar 4)))) (sRet (wM (xTup (xCons (xTup (xCons (xC (.int 0)) (xCons (xVar 0) xNil))) (xCons (xC (.str "alike")) xNil))))) sNext)
    (sSeq (sIf (wMT (xTNot (xB (xCB F_is_number_to (xCons (xVar 5) (xCons (xC (.int 1000000000000)) xNil)))))) (sRet (wM (xTup (xCons (xTup (xCons (xC (.int 0)) (xCons (xVar 0) (xCons (xC (.int 2)) xNil)))) (xCons (xC (.str "room")) xNil))))) sNext)
    (sRet (wM (xC .none))))))))
@[irreducible] def F_road_fault : List PD → Option PD := runP 3 3 X_road_fault
@[irreducible] def X_end_word : XS :=
    sRet (wM (xIf (xB (xOp isU (xVar 0) (xC .none))) (xC (.str "-")) (xCB (on1 strP) (xCons (xVar 0) xNil))))
@[irreducible] def F_end_word : List PD → Option PD := runP 1 0 X_end_word
@[irreducible] def X_road_line : XS :=
    sSeq (sAsg (gTup' 3 (gCons' (gName' 1) (gCons' (gName' 2) (gCons' (gName' 3) gNil')))) (wM (xVar 0)))
    (sRet (wM (xJs [(xC (.str "road ")), xUn fmtT (xCB F_end_word (xCons (xVar 1) xNil)), (xC (.str " ")), xUn fmtT (xCB F_end_word (xCons (xVar 2) xNil)), (xC (.str " ")), xUn fmtT (xVar 3)] Str.empty)))
@[irreducible] def F_road_line : List PD → Option PD := runP 1 3 X_road_line
@[irreducible] def X_read_roads_c_b1 : XS :=
    sSeq (sAsg (gName' 4) (wM (xCB (on1 tupP) (xCons (xLc (xiE (xSl (xOp splitT (xVar 3) (xC (.str " "))) (xPart (xC (.int 1))) xNoPart)) (gvName 5) xYes (xCB F_number_in (xCons (xVar 5) xNil)) [5]) xNil))))
    (sSeq (sIf (wVT (xTOr (xB (xOp isntU (xCB F_road_fault (xCons (xCB (on1 lenP) (xCons (xVar 2) xNil)) (xCons (xVar 4) (xCons (xVar 1) xNil)))) (xC .none))) (xB (xOp neP (xCB F_road_line (xCons (xVar 4) xNil)) (xVar 3))))) sBreak sNext)
    (sApp 2 (wM (xVar 4))))
@[irreducible] def X_read_roads_c : XS :=
    sSeq (sOwn 2 (wOL wcNil))
    (sSeq (sFor (wiE (wM (xSl (xVar 0) (xPart (xC (.int 1))) (xPart (xOp addP (xC (.int 20)) (xC (.int 1))))))) (gName' 3) X_read_roads_c_b1)
    (sFz 2 (sSeq (sIf (wMT (xB (xOp eqP (xCB (on1 lenP) (xCons (xVar 2) xNil)) (xC (.int 0))))) (sRz 16 (xCons (xC (.int 1)) xNil)) sNext)
    (sRet (wM (xCB (on1 tupP) (xCons (xVar 2) xNil)))))))
@[irreducible] def F_read_roads_c : List PD → Option PD := runP 2 4 X_read_roads_c
@[irreducible] def X_web_text : XS :=
    sSeq (sAsg (gTup' 3 (gCons' (gName' 1) (gCons' (gName' 2) (gCons' (gName' 3) gNil')))) (wM (xVar 0)))
    (sSeq (sOwn 4 (wOL (wcDat (wM (xCB F_houses_line (xCons (xCB (on1 lenP) (xCons (xVar 2) xNil)) xNil))) wcNil)))
    (sSeq (sExt 4 (wM (xLc (xiE (xVar 1)) (gvName 5) xYes (xCB F_road_line (xCons (xVar 5) xNil)) [5])))
    (sSeq (sExt 4 (wM (xLc (xiE (xVar 2)) (gvName 6) xYes (xCB F_order_line (xCons (xC (.str "give")) (xCons (xVar 6) xNil))) [6])))
    (sSeq (sExt 4 (wM (xLc (xiE (xVar 3)) (gvName 6) xYes (xCB F_order_line (xCons (xC (.str "take")) (xCons (xVar 6) xNil))) [6])))
    (sFz 4 (sRet (wM (xOp joinT (xC (.str "")) (xLc (xiE (xVar 4)) (gvName 7) xYes (xOp addX (xVar 7) (xC (.str "\n"))) [7])))))))))
@[irreducible] def F_web_text : List PD → Option PD := runP 1 7 X_web_text
@[irreducible] def X_read_web_c : XS :=
    sSeq (sDropZ (wZM (xCB F_check_text_c (xCons (xVar 0) xNil))))
    (sSeq (sAsg (gName' 1) (wM (xOp splitT (xVar 0) (xC (.str "\n")))))
    (sSeq (sAsgZ 2 (wZM (xCB F_read_houses_c (xCons (xVar 1) xNil))))
    (sSeq (sAsgZ 3 (wZM (xCB F_read_roads_c (xCons (xVar 1) (xCons (xVar 2) xNil)))))
    (sSeq (sAsgZ 4 (wZM (xCB F_read_orders_c (xCons (xVar 1) (xCons (xOp addP (xC (.int 1)) (xCB (on1 lenP) (xCons (xVar 3) xNil))) (xCons (xC (.str "give")) (xCons (xLc (xiE (xVar 3)) (gvTup 3 (gvCons (gvName 7) (gvCons (gvName 8) (gvCons (gvName 9) gvNil)))) xYes (xVar 7) [7, 8, 9]) (xCons (xVar 2) xNil))))))))
    (sSeq (sAsgZ 5 (wZM (xCB F_read_orders_c (xCons (xVar 1) (xCons (xOp addP (xOp addP (xC (.int 1)) (xCB (on1 lenP) (xCons (xVar 3) xNil))) (xVar 2)) (xCons (xC (.str "take")) (xCons (xLc (xiE (xVar 3)) (gvTup 3 (gvCons (gvName 7) (gvCons (gvName 8) (gvCons (gvName 9) gvNil)))) xYes (xVar 8) [7, 8, 9]) (xCons (xVar 2) xNil))))))))
    (sSeq (sAsg (gName' 6) (wM (xTup (xCons (xVar 3) (xCons (xVar 4) (xCons (xVar 5) xNil))))))
    (sSeq (sIf (wMT (xB (xOp neP (xCB F_web_text (xCons (xVar 6) xNil)) (xVar 0)))) (sRz 16 (xCons (xOp addP (xOp addP (xC (.int 1)) (xCB (on1 lenP) (xCons (xVar 3) xNil))) (xOp mulU (xC (.int 2)) (xVar 2))) xNil)) sNext)
    (sRet (wM (xVar 6))))))))))
@[irreducible] def F_read_web_c : List PD → Option PD := runP 1 9 X_read_web_c
def it_k78_BadOrder : Nat → Option Bool
  | 16 => some false
  | _ => none
def it_k78_BadWeb : Nat → Option Bool
  | 16 => some false
  | _ => none
def it_k78_Broken : Nat → Option Bool
  | 16 => some false
  | _ => none
def it_k78_NoStream : Nat → Option Bool
  | 16 => some false
  | _ => none
def it_k78_NoText : Nat → Option Bool
  | 16 => some true
  | _ => none
def em_k78_WebError : Nat → Option Bool
  | 16 => some true
  | _ => none
@[irreducible] def X__law_told_w : XS :=
    sSeq (sAsg (gName' 1) (wM (xC .none)))
    (sSeq (sNoZ (sTryH ((em_k78_WebError, 2, sSeq (sAsg (gName' 1) (wM (xLst (xCons (xC (.str "other")) (xCons (xC .none) xNil)))))
    (sIf (wMT (xTAnd (xB (xUn (isX it_k78_NoText) (xVar 2))) (xTNot (xB (xUn (isX4 it_k78_BadOrder it_k78_BadWeb it_k78_Broken it_k78_NoStream) (xVar 2)))))) (sAsg (gName' 1) (wM (xLst (xCons (xC (.str "no")) (xCons (xUn (xatD "line") (xVar 2)) xNil))))) sNext)) :: []) (sAsgZ 1 (wZM (xLstZ "web" (xCBz F_web_text (xCB F_read_web_c (xCons (xVar 0) xNil))))))))
    (sRet (wM (xVar 1))))
@[irreducible] def F__law_told_w : List PD → Option PD := runP 1 2 X__law_told_w
@[irreducible] def X__law_order_b1 : XS :=
    sIns 2 (wCons (wCallK 0 F__law_next (wCons (wV (xOp addP (xCB (on1 lenP) (xCons (xVar 2) xNil)) (xC (.int 1)))) wNil)) (wCons (wM (xVar 3)) wNil))
@[irreducible] def X__law_order : XS :=
    sSeq (sOwn 2 (wOL wcNil))
    (sSeq (sFor (wiE (wM (xVar 1))) (gName' 3) X__law_order_b1)
    (sFz 2 (sRet (wM (xCB (on1 tupP) (xCons (xVar 2) xNil))))))
@[irreducible] def F__law_order : List Cel → List PD → Option (PD × List Cel) := runW 1 2 X__law_order
@[irreducible] def X__law_one : XS :=
    sRet (wOp ixP (wM (xVar 1)) (wCallK 0 F__law_next (wCons (wM (xCB (on1 lenP) (xCons (xVar 1) xNil))) wNil)))
@[irreducible] def F__law_one : List Cel → List PD → Option (PD × List Cel) := runW 1 0 X__law_one
@[irreducible] def X__law_room : XS :=
    sSeq (sAsg (gName' 2) (wCallK 0 F__law_one (wCons (wM (xLst (xCons (xC (.int 0)) (xCons (xC (.int 1)) (xCons (xC (.int 1)) (xCons (xC (.int 2)) (xCons (xC (.int 3)) (xCons (xC (.int 5)) xNil)))))))) wNil)))
    (sSeq (sAsg (gName' 3) (wCallK 0 F__law_one (wCons (wLst (wCons (wM (xC (.int 1))) (wCons (wM (xC (.int 2))) (wCons (wM (xOp powP (xC (.int 10)) (xC (.int 12)))) (wCons (wOp subP (wM (xOp powP (xC (.int 10)) (xC (.int 12)))) (wCallK 0 F__law_next (wCons (wM (xC (.int 3))) wNil))) (wCons (wCallK 0 F__law_next (wCons (wM (xOp powP (xC (.int 10)) (xC (.int 12)))) wNil)) wNil)))))) wNil)))
    (sRet (wM (xOp ixP (xLst (xCons (xVar 2) (xCons (xVar 3) xNil))) (xCB (on1 toIntP) (xCons (xVar 1) xNil))))))
@[irreducible] def F__law_room : List Cel → List PD → Option (PD × List Cel) := runW 1 2 X__law_room
@[irreducible] def X__law_road : XS :=
    sSeq (sAsg (gName' 3) (wCallK 0 F__law_next (wCons (wM (xOp addP (xVar 1) (xC (.int 1)))) wNil)))
    (sSeq (sAsg (gName' 4) (wOp modP (wOp addP (wM (xOp addP (xVar 3) (xC (.int 1)))) (wCallK 0 F__law_next (wCons (wM (xVar 1)) wNil))) (wM (xOp addP (xVar 1) (xC (.int 1))))))
    (sSeq (sAsg (gTup' 2 (gCons' (gName' 5) (gCons' (gName' 6) gNil'))) (wM (xLc (xiE (xTup (xCons (xVar 3) (xCons (xVar 4) xNil)))) (gvName 7) xYes (xOp ixP (xLst (xCons (xC .none) (xCons (xOp subP (xVar 7) (xC (.int 1))) xNil))) (xCB (on1 toIntP) (xCons (xOp gtU (xVar 7) (xC (.int 0))) xNil))) [7])))
    (sRet (wTup (wCons (wM (xVar 5)) (wCons (wM (xVar 6)) (wCons (wCallK 0 F__law_room (wCons (wM (xVar 2)) wNil)) wNil)))))))
@[irreducible] def F__law_road : List Cel → List PD → Option (PD × List Cel) := runW 2 5 X__law_road
@[irreducible] def X__law_web_b1 : XS :=
    sApp 8 (wCallK 0 F__law_order (wCons (wM (xLc (xiA rngP (xCons (xCB (on1 lenP) (xCons (xVar 5) xNil)) xNil)) (gvName 10) (xB (xOp eqP (xOp ixP (xOp ixP (xVar 5) (xVar 10)) (xVar 7)) (xVar 9))) (xVar 10) [10])) wNil))
@[irreducible] def X__law_web_b2 : XS :=
    sSeq (sOwn 8 (wOL wcNil))
    (sSeq (sFor (wiA rngP (wCons (wM (xVar 4)) wNil)) (gName' 9) X__law_web_b1)
    (sFz 8 (sApp 6 (wM (xCB (on1 tupP) (xCons (xVar 8) xNil))))))
@[irreducible] def X__law_web : XS :=
    sSeq (sAsg (gName' 4) (wOp addP (wM (xC (.int 1))) (wCallK 0 F__law_next (wCons (wM (xVar 1)) wNil))))
    (sSeq (sAsg (gName' 5) (wFz (wLc (wiA rngP (wCons (wOp addP (wM (xC (.int 1))) (wCallK 0 F__law_next (wCons (wM (xVar 2)) wNil))) wNil)) (gName' 10) (wMT xYes) (wCallK 0 F__law_road (wCons (wM (xVar 4)) (wCons (wM (xVar 3)) wNil))) [10])))
    (sSeq (sOwn 6 (wOL wcNil))
    (sSeq (sFor (wiE (wM (xTup (xCons (xC (.int 0)) (xCons (xC (.int 1)) xNil))))) (gName' 7) X__law_web_b2)
    (sFz 6 (sRet (wM (xTup (xCons (xCB (on1 tupP) (xCons (xVar 5) xNil)) (xCons (xOp ixP (xVar 6) (xC (.int 0))) (xCons (xOp ixP (xVar 6) (xC (.int 1))) xNil))))))))))
@[irreducible] def F__law_web : List Cel → List PD → Option (PD × List Cel) := runW 3 7 X__law_web
@[irreducible] def X_law_z202_b1 : XS :=
    sSeq (sAsg (gName' 6) (wCallK 1 F__law_spoilt_c (wCons (wM (xVar 3)) wNil)))
    (sSeq (sIf (wB (wOp eqP (wCallK 1 F__law_next (wCons (wM (xC (.int 3))) wNil)) (wM (xC (.int 0))))) (sAsg (gName' 6) (wCallK 1 F__law_spoilt_c (wCons (wM (xVar 6)) wNil))) sNext)
    (sApp 4 (wM (xVar 6))))
@[irreducible] def X_law_z202_b2 : XS :=
    sSeq (sAsg (gName' 7) (wM (xCB F__law_text_fault_b (xCons (xVar 6) xNil))))
    (sSeq (sAsg (gName' 8) (wM (xLst (xCons (xC (.str "no")) (xCons (xVar 7) xNil)))))
    (sSeq (sIf (wMT (xB (xOp eqP (xVar 7) (xUn negP (xC (.int 1)))))) (sAsg (gName' 8) (wM (xLst (xCons (xC (.str "web")) (xCons (xVar 6) xNil))))) sNext)
    (sIf (wMT (xTOr (xB (xOp neP (xCB (on1 reprP) (xCons (xCB F__law_told_w (xCons (xVar 6) xNil)) xNil)) (xCB (on1 reprP) (xCons (xVar 8) xNil)))) (xB (xOp neP (xCB (on1 reprP) (xCons (xCB F__law_told_w (xCons (xVar 6) xNil)) xNil)) (xCB (on1 reprP) (xCons (xVar 8) xNil)))))) (sFz 1 (sRet (wM (xC (.bool false))))) sNext)))
@[irreducible] def X_law_z202_b3 : XS :=
    sSeq (sAsg (gName' 3) (wCB F_web_text (wCons (wCallK 1 F__law_web (wCons (wM (xC (.int 8))) (wCons (wM (xC (.int 20))) (wCons (wOp eqP (wCallK 1 F__law_next (wCons (wM (xC (.int 2))) wNil)) (wM (xC (.int 0)))) wNil)))) wNil)))
    (sSeq (sOwn 4 (wOL (wcDat (wM (xVar 3)) (wcDat (wM (xOp addX (xVar 3) (xC (.str "\n")))) (wcDat (wM (xSlS (xVar 3) xNoPart (xPart (xUn negP (xC (.int 1)))))) (wcDat (wM (xC (.str ""))) (wcDat (wM (xC (.str "\n"))) (wcDat (wM (xC (.str "houses 9\n"))) (wcDat (wM (xC (.str "houses 1\n"))) wcNil)))))))))
    (sSeq (sFor (wiA rngP (wCons (wM (xC (.int 24))) wNil)) (gName' 5) X_law_z202_b1)
    (sFz 4 (sFor (wiE (wM (xOp addX (xVar 4) (xLst (xCons (xC .none) (xCons (xC (.int 0)) (xCons (xC (.bool true)) (xCons (xTup (xCons (xVar 3) xNil)) (xCons (xLst (xCons (xVar 3) xNil)) (xCons (xC (.dict [])) xNil)))))))))) (gName' 6) X_law_z202_b2))))
@[irreducible] def X_law_z202 : XS :=
    sSeq (sOwn 1 (wCallD F__law_deck_h (wCons (wM (xVar 0)) wNil)))
    (sSeq (sFor (wiA rngP (wCons (wM (xC (.int 4))) wNil)) (gName' 2) X_law_z202_b3)
    (sFz 1 (sRet (wM (xC (.bool true))))))
@[irreducible] def F_law_z202 : List PD → Option PD := runP 1 8 X_law_z202
section
variable [kk : KK]
structure HF (mg : Str → Option Value) (w : World) (cA : Nat → Addr) (dA : Addr) : Prop where
  cl : ∀ n, n ∈ ([16] : List Nat) → kk.cl n = some (cA n)
  ex : ∀ n C, kk.cl n = some C → ExcC K C
  g_BadOrder : mg "BadOrder" = some (.ref (cA 5))
  g_BadWeb : mg "BadWeb" = some (.ref (cA 1))
  g_Broken : mg "Broken" = some (.ref (cA 11))
  g_NoStream : mg "NoStream" = some (.ref (cA 15))
  g_NoText : mg "NoText" = some (.ref (cA 16))
  g_WebError : mg "WebError" = some (.ref (cA 0))
  it_BadOrder : ∀ n C b, kk.cl n = some C → it_k78_BadOrder n = some b → PySem.W.kitOne K (.ref C) (.ref (cA 5)) = some b
  it_BadWeb : ∀ n C b, kk.cl n = some C → it_k78_BadWeb n = some b → PySem.W.kitOne K (.ref C) (.ref (cA 1)) = some b
  it_Broken : ∀ n C b, kk.cl n = some C → it_k78_Broken n = some b → PySem.W.kitOne K (.ref C) (.ref (cA 11)) = some b
  it_NoStream : ∀ n C b, kk.cl n = some C → it_k78_NoStream n = some b → PySem.W.kitOne K (.ref C) (.ref (cA 15)) = some b
  it_NoText : ∀ n C b, kk.cl n = some C → it_k78_NoText n = some b → PySem.W.kitOne K (.ref C) (.ref (cA 16)) = some b
  xf_line : ∀ n C, kk.cl n = some C → ("line" : Str) ∈ exFld n → XfC K C ∧ PySem.W.findIn K (.ref C) "line" = some none
  em_k78_WebError : ∀ n C b, kk.cl n = some C → em_k78_WebError n = some b → PySem.W.exmOne K (.ref C) (.ref (cA 0)) = some b
def T__law_deck_h : TS :=
    tSeq (tAsg (tLc (iSeq K (tVar 0)) (gName 2) tYes (tCB rAbsQ (tCons (tVar 2) tNil)) [2]) (gName 1))
    (tRet (tLst (tCons (tLc (iSeq K (tVar 1)) (gName 2) (tTest (tOp oGe (tVar 2) (tOp oPow (tC (.int 10)) (tC (.int 18))))) (tVar 2) [2]) (tCons (tOp (rAddU K) (tVar 1) (tLst (tCons (tOp (rAddU K) (tCB (rLenQ K) (tCons (tVar 1) tNil)) (tC (.int 5))) tNil))) (tCons (tC (.int 0)) tNil)))))
theorem ss__law_deck_h : SS T__law_deck_h X__law_deck_h := by
  unfold X__law_deck_h T__law_deck_h
  exact ss_seq (ss_asg (sg_name (by decide)) (sw_M (SEF.se (sef_lc (si_seq se_var) sgv_name (by decide) st_yes (se_cb sc_abs (sa_cons se_var sa_nil))))))
    (ss_retO (swo_lst (swc_sub (swo_M (sef_lc (si_seq se_var) sgv_name (by decide) (st_test (se_op so_ge se_var (se_op so_pow se_int se_int))) se_var)) (swc_sub (swo_M (sef_op sof_cat se_var (SEF.se (sef_lst (sa_cons (se_op so_add (se_cb sc_len (sa_cons se_var sa_nil)) se_int) sa_nil))))) (swc_dat (sw_M se_int) swc_nil)))))
theorem ss_X__law_next_b1 : SS (tSeq (tAsg (tOp (rIx K) (tOp (rIx K) (tVar 0) (tC (.int 0))) (tC (.int 0))) (gName 2))
    (tSeq (tIfS (tTest (tOp (rGtU K) (tVar 2) (tC (.int 0)))) (tSeq (tAsg (tOp oDivW (tVar 2) (tVar 1)) (gSub (tOp (rIx K) (tVar 0) (tC (.int 0))) (tC (.int 0)) rSetL))
    (tRet (tOp oMod (tVar 2) (tVar 1)))) tNext)
    (tDrop (tBM K "list" rPopAt (tOp (rIx K) (tVar 0) (tC (.int 0))) (tCons (tC (.int 0)) tNil))))) X__law_next_b1 := by
  unfold X__law_next_b1
  exact ss_seq (ss_asg (sg_name (by decide)) (sw_V (se_op so_ix (se_op so_ix se_var se_int) se_int)))
    (ss_seq (ss_if (swt_M (st_test (se_op so_gtU se_var se_int))) (ss_seq (ss_setS se_int se_int (sw_M (se_op so_div se_var se_var)))
    (ss_ret (sw_M (se_op so_mod se_var se_var)))) ss_next)
    (ss_popS se_int se_int))
def T__law_next : TS :=
    tSeq (tWhile (tTest (tOp (rNeD K) (tOp (rIx K) (tVar 0) (tC (.int 0))) (tLst tNil))) (tSeq (tAsg (tOp (rIx K) (tOp (rIx K) (tVar 0) (tC (.int 0))) (tC (.int 0))) (gName 2))
    (tSeq (tIfS (tTest (tOp (rGtU K) (tVar 2) (tC (.int 0)))) (tSeq (tAsg (tOp oDivW (tVar 2) (tVar 1)) (gSub (tOp (rIx K) (tVar 0) (tC (.int 0))) (tC (.int 0)) rSetL))
    (tRet (tOp oMod (tVar 2) (tVar 1)))) tNext)
    (tDrop (tBM K "list" rPopAt (tOp (rIx K) (tVar 0) (tC (.int 0))) (tCons (tC (.int 0)) tNil))))))
    (tSeq (tAsg (tOp (rAddU K) (tOp (rIx K) (tVar 0) (tC (.int 2))) (tC (.int 1))) (gSub (tVar 0) (tC (.int 2)) rSetL))
    (tSeq (tAsg (tOp oMod (tOp (rIx K) (tOp (rIx K) (tVar 0) (tC (.int 1))) (tOp oMod (tOp (rIx K) (tVar 0) (tC (.int 2))) (tCB (rLenQ K) (tCons (tOp (rIx K) (tVar 0) (tC (.int 1))) tNil)))) (tC (.int 2147483647))) (gName 3))
    (tSeq (tAsg (tOp (rAddU K) (tOp (rAddU K) (tOp (rMulV K) (tVar 3) (tOp (rAddU K) (tC (.int 48271)) (tOp (rMulV K) (tC (.int 40692)) (tOp (rIx K) (tVar 0) (tC (.int 2)))))) (tOp (rMulV K) (tOp (rMulV K) (tC (.int 69621)) (tOp (rIx K) (tVar 0) (tC (.int 2)))) (tOp (rIx K) (tVar 0) (tC (.int 2))))) (tC (.int 13))) (gName 4))
    (tSeq (tAsg (tOp oMod (tVar 4) (tC (.int 2147483629))) (gName 4))
    (tRet (tOp oMod (tOp oDivW (tOp oMod (tOp (rMulV K) (tVar 4) (tVar 4)) (tC (.int 2147483587))) (tC (.int 16))) (tVar 1)))))))
theorem ss__law_next : SS T__law_next X__law_next := by
  unfold X__law_next T__law_next
  exact ss_seq (ss_while (swt_V (st_test (se_op so_ne (se_op so_ix se_var se_int) (SEF.se (sef_lst sa_nil))))) ss_X__law_next_b1)
    (ss_seq (ss_set se_int (sw_V (se_op so_add (se_op so_ix se_var se_int) se_int)))
    (ss_seq (ss_asg (sg_name (by decide)) (sw_V (se_op so_mod (se_op so_ix (se_op so_ix se_var se_int) (se_op so_mod (se_op so_ix se_var se_int) (se_cb sc_len (sa_cons (se_op so_ix se_var se_int) sa_nil)))) se_int)))
    (ss_seq (ss_asg (sg_name (by decide)) (sw_V (se_op so_add (se_op so_add (se_op so_mulV se_var (se_op so_add se_int (se_op so_mulV se_int (se_op so_ix se_var se_int)))) (se_op so_mulV (se_op so_mulV se_int (se_op so_ix se_var se_int)) (se_op so_ix se_var se_int))) se_int)))
    (ss_seq (ss_asg (sg_name (by decide)) (sw_M (se_op so_mod se_var se_int)))
    (ss_ret (sw_M (se_op so_mod (se_op so_div (se_op so_mod (se_op so_mulV se_var se_var) se_int) se_int) se_var)))))))
def T__law_sign_b : TS :=
    tSeq (tAsg (tC (.str " -,0123456789\nadehgiknorstuv:x")) (gName 1))
    (tRet (tOp (rIx K) (tVar 1) (tCall (spW F__law_next) [] E0 (tCons (tVar 0) (tCons (tCB rLenS (tCons (tVar 1) tNil)) tNil)))))
theorem ss__law_sign_b : SS T__law_sign_b X__law_sign_b := by
  unfold X__law_sign_b T__law_sign_b
  exact ss_seq (ss_asg (sg_name (by decide)) (sw_M se_str))
    (ss_ret (sw_op so_ixT (sw_M se_var) (sw_callK (swa_cons (sw_M (se_cb sc_lenS (sa_cons se_var sa_nil))) swa_nil))))
def T__law_spoilt_c : TS :=
    tSeq (tAsg (tCall (spW F__law_next) [] E0 (tCons (tVar 0) (tCons (tC (.int 9)) tNil))) (gName 2))
    (tSeq (tAsg (tCall (spW F__law_next) [] E0 (tCons (tVar 0) (tCons (tOp (rAddX K) (tCB rLenS (tCons (tVar 1) tNil)) (tC (.int 1))) tNil))) (gName 3))
    (tSeq (tAsg (tCall (spW F__law_sign_b) [] E0 (tCons (tVar 0) tNil)) (gName 4))
    (tSeq (tIfS (tTest (tOp oLt (tVar 2) (tC (.int 4)))) (tSeq (tAsg (tLst (tCons (tOp (rAddX K) (tOp (rAddX K) (tSl rSlS (tVar 1) tNoPart (tPart (tVar 3))) (tVar 4)) (tSl rSlS (tVar 1) (tPart (tVar 3)) tNoPart)) (tCons (tOp (rAddX K) (tOp (rAddX K) (tSl rSlS (tVar 1) tNoPart (tPart (tVar 3))) (tVar 4)) (tSl rSlS (tVar 1) (tPart (tOp (rAddX K) (tVar 3) (tC (.int 1)))) tNoPart)) tNil))) (gName 5))
    (tRet (tOp (rIx K) (tOp (rAddX K) (tVar 5) (tLst (tCons (tOp (rAddX K) (tSl rSlS (tVar 1) tNoPart (tPart (tVar 3))) (tSl rSlS (tVar 1) (tPart (tOp (rAddX K) (tVar 3) (tC (.int 1)))) tNoPart)) (tCons (tSl rSlS (tVar 1) tNoPart (tPart (tVar 3))) tNil)))) (tVar 2)))) tNext)
    (tSeq (tAsg (tM1 rSplitS (tVar 1) (tC (.str "\n"))) (gName 6))
    (tSeq (tPar 7 8 (tCons (tCall (spW F__law_next) [] E0 (tCons (tVar 0) (tCons (tCB (rLenQ K) (tCons (tVar 6) tNil)) tNil))) (tCons (tCall (spW F__law_next) [] E0 (tCons (tVar 0) (tCons (tCB (rLenQ K) (tCons (tVar 6) tNil)) tNil))) tNil)))
    (tSeq (tIfS (tTest (tOp (rEqX K) (tVar 2) (tC (.int 4)))) (tRet (tM1 (rJoinS K) (tC (.str "\n")) (tOp (rAddX K) (tOp (rAddX K) (tSl (rSlU K) (tVar 6) tNoPart (tPart (tVar 7))) (tSl (rSlU K) (tVar 6) (tPart (tVar 7)) (tPart (tOp (rAddX K) (tVar 7) (tC (.int 1)))))) (tSl (rSlU K) (tVar 6) (tPart (tVar 7)) tNoPart)))) tNext)
    (tSeq (tIfS (tTest (tOp (rEqX K) (tVar 2) (tC (.int 5)))) (tRet (tM1 (rJoinS K) (tC (.str "\n")) (tOp (rAddX K) (tSl (rSlU K) (tVar 6) tNoPart (tPart (tVar 7))) (tSl (rSlU K) (tVar 6) (tPart (tOp (rAddX K) (tVar 7) (tC (.int 1)))) tNoPart)))) tNext)
    (tSeq (tIfS (tTest (tOp (rEqX K) (tVar 2) (tC (.int 6)))) (tRet (tM1 (rJoinS K) (tC (.str "\n")) (tOp (rAddX K) (tOp (rAddX K) (tSl (rSlU K) (tVar 6) tNoPart (tPart (tVar 7))) (tSl (rSlU K) (tVar 6) (tPart (tVar 8)) (tPart (tOp (rAddX K) (tVar 8) (tC (.int 1)))))) (tSl (rSlU K) (tVar 6) (tPart (tOp (rAddX K) (tVar 7) (tC (.int 1)))) tNoPart)))) tNext)
    (tSeq (tAsg (tM1 rSplitS (tOp (rIx K) (tVar 6) (tVar 7)) (tC (.str " "))) (gName 9))
    (tSeq (tAsg (tCall (spW F__law_next) [] E0 (tCons (tVar 0) (tCons (tCB (rLenQ K) (tCons (tVar 9) tNil)) tNil))) (gName 10))
    (tSeq (tAsg (tOp (rIx K) (tLst (tCons (tOp (rAddX K) (tOp (rAddX K) (tSl (rSlU K) (tVar 9) tNoPart (tPart (tVar 10))) (tSl (rSlU K) (tVar 9) (tPart (tVar 10)) (tPart (tOp (rAddX K) (tVar 10) (tC (.int 1)))))) (tSl (rSlU K) (tVar 9) (tPart (tVar 10)) tNoPart)) (tCons (tOp (rAddX K) (tSl (rSlU K) (tVar 9) tNoPart (tPart (tVar 10))) (tSl (rSlU K) (tVar 9) (tPart (tOp (rAddX K) (tVar 10) (tC (.int 1)))) tNoPart)) tNil))) (tOp oSub (tVar 2) (tC (.int 7)))) (gName 9))
    (tRet (tM1 (rJoinS K) (tC (.str "\n")) (tOp (rAddX K) (tOp (rAddX K) (tSl (rSlU K) (tVar 6) tNoPart (tPart (tVar 7))) (tLst (tCons (tM1 (rJoinS K) (tC (.str " ")) (tVar 9)) tNil))) (tSl (rSlU K) (tVar 6) (tPart (tOp (rAddX K) (tVar 7) (tC (.int 1)))) tNoPart)))))))))))))))
theorem ss__law_spoilt_c : SS T__law_spoilt_c X__law_spoilt_c := by
  unfold X__law_spoilt_c T__law_spoilt_c
  exact ss_seq (ss_asg (sg_name (by decide)) (sw_callK (swa_cons (sw_M se_int) swa_nil)))
    (ss_seq (ss_asg (sg_name (by decide)) (sw_callK (swa_cons (sw_M (se_op so_addX (se_cb sc_lenS (sa_cons se_var sa_nil)) se_int)) swa_nil)))
    (ss_seq (ss_asg (sg_name (by decide)) (sw_callK swa_nil))
    (ss_seq (ss_if (swt_M (st_test (se_op so_lt se_var se_int))) (ss_seq (ss_asg (sg_name (by decide)) (sw_M (SEF.se (sef_lst (sa_cons (se_op so_addX (se_op so_addX (se_slS se_var sp_none (sp_some se_var)) se_var) (se_slS se_var (sp_some se_var) sp_none)) (sa_cons (se_op so_addX (se_op so_addX (se_slS se_var sp_none (sp_some se_var)) se_var) (se_slS se_var (sp_some (se_op so_addX se_var se_int)) sp_none)) sa_nil))))))
    (ss_ret (sw_M (se_op so_ix (se_op so_addX se_var (SEF.se (sef_lst (sa_cons (se_op so_addX (se_slS se_var sp_none (sp_some se_var)) (se_slS se_var (sp_some (se_op so_addX se_var se_int)) sp_none)) (sa_cons (se_slS se_var sp_none (sp_some se_var)) sa_nil))))) se_var)))) ss_next)
    (ss_seq (ss_asg (sg_name (by decide)) (sw_M (se_m1 sm_split se_var se_str)))
    (ss_seq (ss_par (by decide) (by decide) (swc_dat (sw_callK (swa_cons (sw_M (se_cb sc_len (sa_cons se_var sa_nil))) swa_nil)) (swc_dat (sw_callK (swa_cons (sw_M (se_cb sc_len (sa_cons se_var sa_nil))) swa_nil)) swc_nil)))
    (ss_seq (ss_if (swt_M (st_test (se_op so_eq se_var se_int))) (ss_ret (sw_M (se_m1 sm_join se_str (se_op so_addX (se_op so_addX (se_sl se_var sp_none (sp_some se_var)) (se_sl se_var (sp_some se_var) (sp_some (se_op so_addX se_var se_int)))) (se_sl se_var (sp_some se_var) sp_none))))) ss_next)
    (ss_seq (ss_if (swt_M (st_test (se_op so_eq se_var se_int))) (ss_ret (sw_M (se_m1 sm_join se_str (se_op so_addX (se_sl se_var sp_none (sp_some se_var)) (se_sl se_var (sp_some (se_op so_addX se_var se_int)) sp_none))))) ss_next)
    (ss_seq (ss_if (swt_M (st_test (se_op so_eq se_var se_int))) (ss_ret (sw_M (se_m1 sm_join se_str (se_op so_addX (se_op so_addX (se_sl se_var sp_none (sp_some se_var)) (se_sl se_var (sp_some se_var) (sp_some (se_op so_addX se_var se_int)))) (se_sl se_var (sp_some (se_op so_addX se_var se_int)) sp_none))))) ss_next)
    (ss_seq (ss_asg (sg_name (by decide)) (sw_M (se_m1 sm_split (se_op so_ix se_var se_var) se_str)))
    (ss_seq (ss_asg (sg_name (by decide)) (sw_callK (swa_cons (sw_M (se_cb sc_len (sa_cons se_var sa_nil))) swa_nil)))
    (ss_seq (ss_asg (sg_name (by decide)) (sw_M (se_op so_ix (SEF.se (sef_lst (sa_cons (se_op so_addX (se_op so_addX (se_sl se_var sp_none (sp_some se_var)) (se_sl se_var (sp_some se_var) (sp_some (se_op so_addX se_var se_int)))) (se_sl se_var (sp_some se_var) sp_none)) (sa_cons (se_op so_addX (se_sl se_var sp_none (sp_some se_var)) (se_sl se_var (sp_some (se_op so_addX se_var se_int)) sp_none)) sa_nil)))) (se_op so_sub se_var se_int))))
    (ss_ret (sw_M (se_m1 sm_join se_str (se_op so_addX (se_op so_addX (se_sl se_var sp_none (sp_some se_var)) (SEF.se (sef_lst (sa_cons (se_m1 sm_join se_str se_var) sa_nil)))) (se_sl se_var (sp_some (se_op so_addX se_var se_int)) sp_none))))))))))))))))
def T__law_number_in : TS :=
    tSeq (tIfS (tOr (tTest (tOp (rEqX K) (tVar 0) (tC (.str "")))) (tOr (tTest (tOp (rGtU K) (tCB rLenS (tCons (tVar 0) tNil)) (tC (.int 13)))) (tTest (tOp (rNeD K) (tLc (iStr (tVar 0)) (gName 2) (tTest (tOp rNotInS (tVar 2) (tC (.str "0123456789")))) (tVar 2) [2]) (tLst tNil))))) (tRet (tC .non)) tNext)
    (tSeq (tIfS (tOr (tAnd (tTest (tOp (rEqX K) (tOp (rIx K) (tVar 0) (tC (.int 0))) (tC (.str "0")))) (tTest (tOp (rNeD K) (tVar 0) (tC (.str "0"))))) (tTest (tOp (rGtU K) (tCB rIntS (tCons (tVar 0) tNil)) (tVar 1)))) (tRet (tC .non)) tNext)
    (tRet (tCB rIntS (tCons (tVar 0) tNil))))
theorem ss__law_number_in : SS T__law_number_in X__law_number_in := by
  unfold X__law_number_in T__law_number_in
  exact ss_seq (ss_if (swt_M (st_or (st_test (se_op so_eq se_var se_str)) (st_or (st_test (se_op so_gtU (se_cb sc_lenS (sa_cons se_var sa_nil)) se_int)) (st_test (se_op so_ne (SEF.se (sef_lc (si_str se_var) sgv_name (by decide) (st_test (se_op so_notinS se_var se_str)) se_var)) (SEF.se (sef_lst sa_nil))))))) (ss_ret (sw_M se_non)) ss_next)
    (ss_seq (ss_if (swt_M (st_or (st_and (st_test (se_op so_eq (se_op so_ixT se_var se_int) se_str)) (st_test (se_op so_ne se_var se_str))) (st_test (se_op so_gtU (se_cb sc_intS (sa_cons se_var sa_nil)) se_var)))) (ss_ret (sw_M se_non)) ss_next)
    (ss_ret (sw_M (se_cb sc_intS (sa_cons se_var sa_nil)))))
def T__law_end_in : TS :=
    tRet (tIf (tTest (tOp (rEqX K) (tVar 0) (tC (.str "-")))) (tUn oNeg (tC (.int 1))) (tCall (spF F__law_number_in) [] E0 (tCons (tVar 0) (tCons (tOp oSub (tVar 1) (tC (.int 1))) tNil))))
theorem ss__law_end_in : SS T__law_end_in X__law_end_in := by
  unfold X__law_end_in T__law_end_in
  exact ss_ret (sw_M (se_if (st_test (se_op so_eq se_var se_str)) (se_un su_neg se_int) (se_call (sa_cons se_var (sa_cons (se_op so_sub se_var se_int) sa_nil)))))
def T__law_line_right_b : TS :=
    tSeq (tAsg (tM1 rSplitS (tVar 0) (tC (.str " "))) (gName 4))
    (tSeq (tIfS (tTest (tOp (rEqX K) (tOp (rIx K) (tVar 1) (tC (.int 0))) (tC (.int 0)))) (tSeq (tAsg (tCall (spF F__law_number_in) [] E0 (tCons (tOp (rIx K) (tVar 4) (tUn oNeg (tC (.int 1)))) (tCons (tC (.int 8)) tNil))) (gName 5))
    (tSeq (tIfS (tOr (tTest (tOp (rNeD K) (tCB (rLenQ K) (tCons (tVar 4) tNil)) (tC (.int 2)))) (tOr (tTest (tOp (rNeD K) (tOp (rIx K) (tVar 4) (tC (.int 0))) (tC (.str "houses")))) (tOr (tTest (tOp oIsU (tVar 5) (tC .non))) (tTest (tOp (rEqX K) (tVar 5) (tC (.int 0))))))) (tRet (tC (.bl false))) tNext)
    (tSeq (tAsg (tVar 5) (gSub (tVar 1) (tC (.int 0)) rSetL))
    (tRet (tC (.bl true)))))) tNext)
    (tSeq (tIfS (tTest (tOp (rEqX K) (tOp (rIx K) (tVar 4) (tC (.int 0))) (tC (.str "road")))) (tSeq (tIfS (tOr (tTest (tOp (rNeD K) (tCB (rLenQ K) (tCons (tVar 4) tNil)) (tC (.int 4)))) (tOr (tTest (tOp (rNeD K) (tVar 3) (tLst tNil))) (tTest (tOp (rEqX K) (tCB (rLenQ K) (tCons (tVar 2) tNil)) (tC (.int 20)))))) (tRet (tC (.bl false))) tNext)
    (tSeq (tAsg (tLc (iSeq K (tSl (rSlU K) (tVar 4) (tPart (tC (.int 1))) (tPart (tC (.int 3))))) (gName 10) tYes (tCall (spF F__law_end_in) [] E0 (tCons (tVar 10) (tCons (tOp (rIx K) (tVar 1) (tC (.int 0))) tNil))) [10]) (gName 6))
    (tSeq (tIfS (tOr (tTest (tOp (rInU K) (tC .non) (tVar 6))) (tOr (tTest (tOp (rEqX K) (tOp (rIx K) (tVar 6) (tC (.int 0))) (tOp (rIx K) (tVar 6) (tC (.int 1))))) (tTest (tOp oIsU (tCall (spF F__law_number_in) [] E0 (tCons (tOp (rIx K) (tVar 4) (tC (.int 3))) (tCons (tOp oPow (tC (.int 10)) (tC (.int 12))) tNil))) (tC .non))))) (tRet (tC (.bl false))) tNext)
    (tSeq (tDrop (tBM K "list" rAppend (tVar 2) (tCons (tVar 6) tNil)))
    (tRet (tC (.bl true))))))) tNext)
    (tSeq (tIfS (tOr (tTest (tOp (rEqX K) (tVar 2) (tLst tNil))) (tOr (tTest (tOp (rEqX K) (tCB (rLenQ K) (tCons (tVar 3) tNil)) (tOp (rMulV K) (tC (.int 2)) (tOp (rIx K) (tVar 1) (tC (.int 0)))))) (tTest (tOp (rNeD K) (tCB (rLenQ K) (tCons (tVar 4) tNil)) (tC (.int 2)))))) (tRet (tC (.bl false))) tNext)
    (tSeq (tAsg (tTupF (tCons (tOp oDivW (tCB (rLenQ K) (tCons (tVar 3) tNil)) (tOp (rIx K) (tVar 1) (tC (.int 0)))) (tCons (tOp oMod (tCB (rLenQ K) (tCons (tVar 3) tNil)) (tOp (rIx K) (tVar 1) (tC (.int 0)))) tNil))) (gTU K 2 (gCons (gName 7) (gCons (gName 8) gNil))))
    (tSeq (tAsg (tIf (tTest (tOp (rEqX K) (tOp (rIx K) (tVar 4) (tC (.int 1))) (tC (.str "-")))) (tLst tNil) (tLc (iSeq K (tM1 rSplitS (tOp (rIx K) (tVar 4) (tC (.int 1))) (tC (.str ",")))) (gName 10) tYes (tCall (spF F__law_number_in) [] E0 (tCons (tVar 10) (tCons (tC (.int 19)) tNil))) [10])) (gName 9))
    (tSeq (tIfS (tOr (tTest (tOp (rNeD K) (tOp (rIx K) (tVar 4) (tC (.int 0))) (tOp (rIx K) (tLst (tCons (tC (.str "give")) (tCons (tC (.str "take")) tNil))) (tVar 7)))) (tTest (tOp (rInU K) (tC .non) (tVar 9)))) (tRet (tC (.bl false))) tNext)
    (tSeq (tIfS (tTest (tOp (rNeD K) (tCB (rSortedU K) (tCons (tVar 9) tNil)) (tLc (iRng1 (tCons (tCB (rLenQ K) (tCons (tVar 2) tNil)) tNil)) (gName 11) (tTest (tOp (rEqX K) (tOp (rIx K) (tOp (rIx K) (tVar 2) (tVar 11)) (tVar 7)) (tVar 8))) (tVar 11) [11]))) (tRet (tC (.bl false))) tNext)
    (tSeq (tDrop (tBM K "list" rAppend (tVar 3) (tCons (tVar 9) tNil)))
    (tRet (tC (.bl true)))))))))))
theorem ss__law_line_right_b : SSP 4 T__law_line_right_b X__law_line_right_b := by
  unfold X__law_line_right_b T__law_line_right_b
  exact ssp_seq (ssp_st (ss_asg (sg_name (by decide)) (sw_M (se_m1 sm_split se_var se_str))) (by repeat' first | exact fr_next | exact fr_drop | refine fr_asg ?_ | refine fr_seq ?_ ?_ | refine fr_if ?_ ?_ | exact fg_name (by decide) | exact fg_sub | refine fg_tup ?_ | refine fgs_cons ?_ ?_ | exact fgs_nil) (by repeat' first | exact nx_asg | exact nx_next | exact nx_ext | exact nx_app | exact nx_set | exact nx_own | refine nx_seq ?_ ?_ | refine nx_if ?_ ?_ | refine nx_fz ?_))
    (ssp_seq (ssp_if (swt_V (st_test (se_op so_eq (se_op so_ix se_var se_int) se_int))) (ssp_seq (ssp_st (ss_asg (sg_name (by decide)) (sw_M (se_call (sa_cons (se_op so_ix se_var (se_un su_neg se_int)) (sa_cons se_int sa_nil))))) (by repeat' first | exact fr_next | exact fr_drop | refine fr_asg ?_ | refine fr_seq ?_ ?_ | refine fr_if ?_ ?_ | exact fg_name (by decide) | exact fg_sub | refine fg_tup ?_ | refine fgs_cons ?_ ?_ | exact fgs_nil) (by repeat' first | exact nx_asg | exact nx_next | exact nx_ext | exact nx_app | exact nx_set | exact nx_own | refine nx_seq ?_ ?_ | refine nx_if ?_ ?_ | refine nx_fz ?_))
    (ssp_seq (ssp_if (swt_M (st_or (st_test (se_op so_ne (se_cb sc_len (sa_cons se_var sa_nil)) se_int)) (st_or (st_test (se_op so_ne (se_op so_ix se_var se_int) se_str)) (st_or (st_test (se_op so_isU se_var se_non)) (st_test (se_op so_eq se_var se_int)))))) (ssp_ret (sw_M se_bl)) (ssp_st ss_next (by repeat' first | exact fr_next | exact fr_drop | refine fr_asg ?_ | refine fr_seq ?_ ?_ | refine fr_if ?_ ?_ | exact fg_name (by decide) | exact fg_sub | refine fg_tup ?_ | refine fgs_cons ?_ ?_ | exact fgs_nil) (by repeat' first | exact nx_asg | exact nx_next | exact nx_ext | exact nx_app | exact nx_set | exact nx_own | refine nx_seq ?_ ?_ | refine nx_if ?_ ?_ | refine nx_fz ?_)))
    (ssp_seq (ssp_st (ss_set se_int (sw_M se_var)) (by repeat' first | exact fr_next | exact fr_drop | refine fr_asg ?_ | refine fr_seq ?_ ?_ | refine fr_if ?_ ?_ | exact fg_name (by decide) | exact fg_sub | refine fg_tup ?_ | refine fgs_cons ?_ ?_ | exact fgs_nil) (by repeat' first | exact nx_asg | exact nx_next | exact nx_ext | exact nx_app | exact nx_set | exact nx_own | refine nx_seq ?_ ?_ | refine nx_if ?_ ?_ | refine nx_fz ?_))
    (ssp_ret (sw_M se_bl))))) (ssp_st ss_next (by repeat' first | exact fr_next | exact fr_drop | refine fr_asg ?_ | refine fr_seq ?_ ?_ | refine fr_if ?_ ?_ | exact fg_name (by decide) | exact fg_sub | refine fg_tup ?_ | refine fgs_cons ?_ ?_ | exact fgs_nil) (by repeat' first | exact nx_asg | exact nx_next | exact nx_ext | exact nx_app | exact nx_set | exact nx_own | refine nx_seq ?_ ?_ | refine nx_if ?_ ?_ | refine nx_fz ?_)))
    (ssp_seq (ssp_if (swt_M (st_test (se_op so_eq (se_op so_ix se_var se_int) se_str))) (ssp_seq (ssp_if (swt_V (st_or (st_test (se_op so_ne (se_cb sc_len (sa_cons se_var sa_nil)) se_int)) (st_or (st_test (se_op so_ne se_var (SEF.se (sef_lst sa_nil)))) (st_test (se_op so_eq (se_cb sc_len (sa_cons se_var sa_nil)) se_int))))) (ssp_ret (sw_M se_bl)) (ssp_st ss_next (by repeat' first | exact fr_next | exact fr_drop | refine fr_asg ?_ | refine fr_seq ?_ ?_ | refine fr_if ?_ ?_ | exact fg_name (by decide) | exact fg_sub | refine fg_tup ?_ | refine fgs_cons ?_ ?_ | exact fgs_nil) (by repeat' first | exact nx_asg | exact nx_next | exact nx_ext | exact nx_app | exact nx_set | exact nx_own | refine nx_seq ?_ ?_ | refine nx_if ?_ ?_ | refine nx_fz ?_)))
    (ssp_seq (ssp_st (ss_own (by decide) (swo_V (sef_lc (si_seq (se_sl se_var (sp_some se_int) (sp_some se_int))) sgv_name (by decide) st_yes (se_call (sa_cons se_var (sa_cons (se_op so_ix se_var se_int) sa_nil)))))) (by repeat' first | exact fr_next | exact fr_drop | refine fr_asg ?_ | refine fr_seq ?_ ?_ | refine fr_if ?_ ?_ | exact fg_name (by decide) | exact fg_sub | refine fg_tup ?_ | refine fgs_cons ?_ ?_ | exact fgs_nil) (by repeat' first | exact nx_asg | exact nx_next | exact nx_ext | exact nx_app | exact nx_set | exact nx_own | refine nx_seq ?_ ?_ | refine nx_if ?_ ?_ | refine nx_fz ?_))
    (ssp_fz (ssp_seq (ssp_if (swt_M (st_or (st_test (se_op so_in se_non se_var)) (st_or (st_test (se_op so_eq (se_op so_ix se_var se_int) (se_op so_ix se_var se_int))) (st_test (se_op so_isU (se_call (sa_cons (se_op so_ix se_var se_int) (sa_cons (se_op so_pow se_int se_int) sa_nil))) se_non))))) (ssp_ret (sw_M se_bl)) (ssp_st ss_next (by repeat' first | exact fr_next | exact fr_drop | refine fr_asg ?_ | refine fr_seq ?_ ?_ | refine fr_if ?_ ?_ | exact fg_name (by decide) | exact fg_sub | refine fg_tup ?_ | refine fgs_cons ?_ ?_ | exact fgs_nil) (by repeat' first | exact nx_asg | exact nx_next | exact nx_ext | exact nx_app | exact nx_set | exact nx_own | refine nx_seq ?_ ?_ | refine nx_if ?_ ?_ | refine nx_fz ?_)))
    (ssp_seq (ssp_st (ss_app (sw_M se_var)) (by repeat' first | exact fr_next | exact fr_drop | refine fr_asg ?_ | refine fr_seq ?_ ?_ | refine fr_if ?_ ?_ | exact fg_name (by decide) | exact fg_sub | refine fg_tup ?_ | refine fgs_cons ?_ ?_ | exact fgs_nil) (by repeat' first | exact nx_asg | exact nx_next | exact nx_ext | exact nx_app | exact nx_set | exact nx_own | refine nx_seq ?_ ?_ | refine nx_if ?_ ?_ | refine nx_fz ?_))
    (ssp_ret (sw_M se_bl))))))) (ssp_st ss_next (by repeat' first | exact fr_next | exact fr_drop | refine fr_asg ?_ | refine fr_seq ?_ ?_ | refine fr_if ?_ ?_ | exact fg_name (by decide) | exact fg_sub | refine fg_tup ?_ | refine fgs_cons ?_ ?_ | exact fgs_nil) (by repeat' first | exact nx_asg | exact nx_next | exact nx_ext | exact nx_app | exact nx_set | exact nx_own | refine nx_seq ?_ ?_ | refine nx_if ?_ ?_ | refine nx_fz ?_)))
    (ssp_seq (ssp_if (swt_V (st_or (st_test (se_op so_eq se_var (SEF.se (sef_lst sa_nil)))) (st_or (st_test (se_op so_eq (se_cb sc_len (sa_cons se_var sa_nil)) (se_op so_mulV se_int (se_op so_ix se_var se_int)))) (st_test (se_op so_ne (se_cb sc_len (sa_cons se_var sa_nil)) se_int))))) (ssp_ret (sw_M se_bl)) (ssp_st ss_next (by repeat' first | exact fr_next | exact fr_drop | refine fr_asg ?_ | refine fr_seq ?_ ?_ | refine fr_if ?_ ?_ | exact fg_name (by decide) | exact fg_sub | refine fg_tup ?_ | refine fgs_cons ?_ ?_ | exact fgs_nil) (by repeat' first | exact nx_asg | exact nx_next | exact nx_ext | exact nx_app | exact nx_set | exact nx_own | refine nx_seq ?_ ?_ | refine nx_if ?_ ?_ | refine nx_fz ?_)))
    (ssp_seq (ssp_st (ss_asg (sg_tup (sg_cons (sg_name (by decide)) (sg_cons (sg_name (by decide)) sg_nil))) (sw_V (se_tup (sa_cons (se_op so_div (se_cb sc_len (sa_cons se_var sa_nil)) (se_op so_ix se_var se_int)) (sa_cons (se_op so_mod (se_cb sc_len (sa_cons se_var sa_nil)) (se_op so_ix se_var se_int)) sa_nil))))) (by repeat' first | exact fr_next | exact fr_drop | refine fr_asg ?_ | refine fr_seq ?_ ?_ | refine fr_if ?_ ?_ | exact fg_name (by decide) | exact fg_sub | refine fg_tup ?_ | refine fgs_cons ?_ ?_ | exact fgs_nil) (by repeat' first | exact nx_asg | exact nx_next | exact nx_ext | exact nx_app | exact nx_set | exact nx_own | refine nx_seq ?_ ?_ | refine nx_if ?_ ?_ | refine nx_fz ?_))
    (ssp_seq (ssp_st (ss_asg (sg_name (by decide)) (sw_M (se_if (st_test (se_op so_eq (se_op so_ix se_var se_int) se_str)) (SEF.se (sef_lst sa_nil)) (SEF.se (sef_lc (si_seq (se_m1 sm_split (se_op so_ix se_var se_int) se_str)) sgv_name (by decide) st_yes (se_call (sa_cons se_var (sa_cons se_int sa_nil)))))))) (by repeat' first | exact fr_next | exact fr_drop | refine fr_asg ?_ | refine fr_seq ?_ ?_ | refine fr_if ?_ ?_ | exact fg_name (by decide) | exact fg_sub | refine fg_tup ?_ | refine fgs_cons ?_ ?_ | exact fgs_nil) (by repeat' first | exact nx_asg | exact nx_next | exact nx_ext | exact nx_app | exact nx_set | exact nx_own | refine nx_seq ?_ ?_ | refine nx_if ?_ ?_ | refine nx_fz ?_))
    (ssp_seq (ssp_if (swt_M (st_or (st_test (se_op so_ne (se_op so_ix se_var se_int) (se_op so_ix (SEF.se (sef_lst (sa_cons se_str (sa_cons se_str sa_nil)))) se_var))) (st_test (se_op so_in se_non se_var)))) (ssp_ret (sw_M se_bl)) (ssp_st ss_next (by repeat' first | exact fr_next | exact fr_drop | refine fr_asg ?_ | refine fr_seq ?_ ?_ | refine fr_if ?_ ?_ | exact fg_name (by decide) | exact fg_sub | refine fg_tup ?_ | refine fgs_cons ?_ ?_ | exact fgs_nil) (by repeat' first | exact nx_asg | exact nx_next | exact nx_ext | exact nx_app | exact nx_set | exact nx_own | refine nx_seq ?_ ?_ | refine nx_if ?_ ?_ | refine nx_fz ?_)))
    (ssp_seq (ssp_if (swt_V (st_test (se_op so_ne (se_cb sc_sort (sa_cons se_var sa_nil)) (SEF.se (sef_lc (si_rng (sa_cons (se_cb sc_len (sa_cons se_var sa_nil)) sa_nil)) sgv_name (by decide) (st_test (se_op so_eq (se_op so_ix (se_op so_ix se_var se_var) se_var) se_var)) se_var))))) (ssp_ret (sw_M se_bl)) (ssp_st ss_next (by repeat' first | exact fr_next | exact fr_drop | refine fr_asg ?_ | refine fr_seq ?_ ?_ | refine fr_if ?_ ?_ | exact fg_name (by decide) | exact fg_sub | refine fg_tup ?_ | refine fgs_cons ?_ ?_ | exact fgs_nil) (by repeat' first | exact nx_asg | exact nx_next | exact nx_ext | exact nx_app | exact nx_set | exact nx_own | refine nx_seq ?_ ?_ | refine nx_if ?_ ?_ | refine nx_fz ?_)))
    (ssp_seq (ssp_st (ss_app (sw_M se_var)) (by repeat' first | exact fr_next | exact fr_drop | refine fr_asg ?_ | refine fr_seq ?_ ?_ | refine fr_if ?_ ?_ | exact fg_name (by decide) | exact fg_sub | refine fg_tup ?_ | refine fgs_cons ?_ ?_ | exact fgs_nil) (by repeat' first | exact nx_asg | exact nx_next | exact nx_ext | exact nx_app | exact nx_set | exact nx_own | refine nx_seq ?_ ?_ | refine nx_if ?_ ?_ | refine nx_fz ?_))
    (ssp_ret (sw_M se_bl))))))))))
theorem ss_X__law_text_fault_b_b1 : SS (tIfS (tNot (tB (tCall (spC 3 F__law_line_right_b) [] E0 (tCons (tVar 7) (tCons (tVar 3) (tCons (tVar 4) (tCons (tVar 5) tNil))))))) (tRet (tVar 6)) tNext) X__law_text_fault_b_b1 := by
  unfold X__law_text_fault_b_b1
  exact ss_if (swt_not (swt_B (sw_callC (js := [3, 4, 5]) (by decide) se_var))) (ss_fz (ss_fz (ss_fz (ss_ret (sw_M se_var))))) ss_next
def T__law_text_fault_b : TS :=
    tSeq (tIfS (tNot (tB (tCB (rIsi K) (tCons (tVar 0) (tCons (tC (.ty "str")) tNil))))) (tRet (tC .non)) tNext)
    (tSeq (tAsg (tM1 rSplitS (tVar 0) (tC (.str "\n"))) (gName 1))
    (tSeq (tAsg (tOp (rAddU K) (tSl (rSlU K) (tVar 1) tNoPart (tPart (tUn oNeg (tC (.int 1))))) (tOp (rMulV K) (tSl (rSlU K) (tVar 1) (tPart (tUn oNeg (tC (.int 1)))) tNoPart) (tCB rIntQ (tCons (tOp (rNeD K) (tOp (rIx K) (tVar 1) (tUn oNeg (tC (.int 1)))) (tC (.str ""))) tNil)))) (gName 2))
    (tSeq (Uv.tPar3 3 4 5 (tCons (tLst (tCons (tC (.int 0)) tNil)) (tCons (tLst tNil) (tCons (tLst tNil) tNil))))
    (tSeq (tFor (iEnumU K (tCons (tVar 2) tNil)) (gTU K 2 (gCons (gName 6) (gCons (gName 7) gNil))) (tIfS (tNot (tB (tCall (spC 3 F__law_line_right_b) [] E0 (tCons (tVar 7) (tCons (tVar 3) (tCons (tVar 4) (tCons (tVar 5) tNil))))))) (tRet (tVar 6)) tNext))
    (tSeq (tIfS (tOr (tTest (tOp (rEqX K) (tOp (rIx K) (tVar 3) (tC (.int 0))) (tC (.int 0)))) (tOr (tTest (tOp oLt (tCB (rLenQ K) (tCons (tVar 5) tNil)) (tOp (rMulV K) (tC (.int 2)) (tOp (rIx K) (tVar 3) (tC (.int 0)))))) (tTest (tOp (rNeD K) (tOp (rIx K) (tVar 1) (tUn oNeg (tC (.int 1)))) (tC (.str "")))))) (tRet (tCB (rLenQ K) (tCons (tVar 2) tNil))) tNext)
    (tRet (tUn oNeg (tC (.int 1)))))))))
theorem ss__law_text_fault_b : SS T__law_text_fault_b X__law_text_fault_b := by
  unfold X__law_text_fault_b T__law_text_fault_b
  exact ss_seq (ss_if (swt_M (st_not (st_B (se_isi .str rfl se_var)))) (ss_ret (sw_M se_non)) ss_next)
    (ss_seq (ss_asg (sg_name (by decide)) (sw_M (se_m1 sm_split se_var se_str)))
    (ss_seq (ss_asg (sg_name (by decide)) (sw_M (se_op so_add (se_sl se_var sp_none (sp_some (se_un su_neg se_int))) (se_op so_mulV (se_sl se_var (sp_some (se_un su_neg se_int)) sp_none) (se_cb sc_int (sa_cons (se_op so_ne (se_op so_ix se_var (se_un su_neg se_int)) se_str) sa_nil))))))
    (ss_seq (ss_par3 (by decide) (by decide) (by decide) (swc_sub (swo_lst (swc_dat (sw_M se_int) swc_nil)) (swc_sub (swo_lst swc_nil) (swc_sub (swo_lst swc_nil) swc_nil))))
    (ss_seq (ss_for (swi_enum (swa_cons (sw_M se_var) swa_nil)) (sg_tup (sg_cons (sg_name (by decide)) (sg_cons (sg_name (by decide)) sg_nil))) ss_X__law_text_fault_b_b1)
    (ss_fz (ss_fz (ss_fz (ss_seq (ss_if (swt_M (st_or (st_test (se_op so_eq (se_op so_ix se_var se_int) se_int)) (st_or (st_test (se_op so_lt (se_cb sc_len (sa_cons se_var sa_nil)) (se_op so_mulV se_int (se_op so_ix se_var se_int)))) (st_test (se_op so_ne (se_op so_ix se_var (se_un su_neg se_int)) se_str))))) (ss_ret (sw_M (se_cb sc_len (sa_cons se_var sa_nil)))) ss_next)
    (ss_ret (sw_M (se_un su_neg se_int)))))))))))
def T_check_text_c (W : WX) (w : World) (cA : Nat → Addr) (dA : Addr) : TS :=
    tIfS (tNot (tB (tCB (rIsi K) (tCons (tVar 0) (tCons (tC (.ty "str")) tNil))))) (tRv W (cA 16) "line" (tC .non)) tNext
theorem ss_check_text_c {W : WX} {mg : Str → Option Value} {w : World} {cA : Nat → Addr} {dA : Addr} (Z : HF mg w cA dA) : SSZ W (T_check_text_c W w cA dA) X_check_text_c := by
  unfold X_check_text_c T_check_text_c
  exact ssz_if (swt_M (st_not (st_B (se_isi .str rfl se_var)))) (ssz_rz1 se_non (Z.cl 16 (by decide)) rfl) (ssz_of ss_next)
def T_houses_line : TS :=
    tRet (tJoined [(tC (.str "houses ")), tFmt (tVar 0)])
theorem ss_houses_line : SS T_houses_line X_houses_line := by
  unfold X_houses_line T_houses_line
  exact ss_ret (sw_M (se_joined (SEs.cons se_str (SEs.cons (se_fmt se_var) SEs.nil))))
theorem ss_X_read_houses_c_b1 {mg : Str → Option Value} {w : World} {cA : Nat → Addr} {dA : Addr} (Z : HF mg w cA dA) : SS (tIfS (tTest (tOp (rEqX K) (tOp (rIx K) (tVar 0) (tC (.int 0))) (tCall (spF F_houses_line) [] E0 (tCons (tVar 1) tNil)))) (tRet (tVar 1)) tNext) X_read_houses_c_b1 := by
  unfold X_read_houses_c_b1
  exact ss_if (swt_M (st_test (se_op so_eq (se_op so_ix se_var se_int) (se_call (sa_cons se_var sa_nil))))) (ss_ret (sw_M se_var)) ss_next
def T_read_houses_c (W : WX) (w : World) (cA : Nat → Addr) (dA : Addr) : TS :=
    tSeq (tFor (iRng2 (tCons (tC (.int 1)) (tCons (tOp (rAddU K) (tC (.int 8)) (tC (.int 1))) tNil))) (gName 1) (tIfS (tTest (tOp (rEqX K) (tOp (rIx K) (tVar 0) (tC (.int 0))) (tCall (spF F_houses_line) [] E0 (tCons (tVar 1) tNil)))) (tRet (tVar 1)) tNext))
    (tRv W (cA 16) "line" (tC (.int 0)))
theorem ss_read_houses_c {W : WX} {mg : Str → Option Value} {w : World} {cA : Nat → Addr} {dA : Addr} (Z : HF mg w cA dA) : SSZ W (T_read_houses_c W w cA dA) X_read_houses_c := by
  unfold X_read_houses_c T_read_houses_c
  exact ssz_seq (ssz_of (ss_for (swi_rng2 (swa_cons (sw_M se_int) (swa_cons (sw_M (se_op so_add se_int se_int)) swa_nil))) (sg_name (by decide)) (ss_X_read_houses_c_b1 Z)))
    (ssz_rz1 se_int (Z.cl 16 (by decide)) rfl)
def T_is_number : TS :=
    tRet (tAndV (tCB (rIsi K) (tCons (tVar 0) (tCons (tC (.ty "int")) tNil))) (tNotV (tCB (rIsi K) (tCons (tVar 0) (tCons (tC (.ty "bool")) tNil)))))
theorem ss_is_number : SS T_is_number X_is_number := by
  unfold X_is_number T_is_number
  exact ss_ret (sw_M (se_and (se_isi .int rfl se_var) (se_not (se_isi .bool rfl se_var))))
def T_is_order : TS :=
    tRet (tAndV (tCB (rIsi K) (tCons (tVar 0) (tCons (tC (.ty "tuple")) tNil))) (tAndV (tCB (rAll K) (tCons (tLc (iSeq K (tVar 0)) (gName 2) tYes (tCall (spF F_is_number) [] E0 (tCons (tVar 2) tNil)) [2]) tNil)) (tOp (rEqX K) (tCB (rSortedU K) (tCons (tVar 0) tNil)) (tVar 1))))
theorem ss_is_order : SS T_is_order X_is_order := by
  unfold X_is_order T_is_order
  exact ss_ret (sw_M (se_and (se_isi .tuple rfl se_var) (se_and (se_cb sc_all (sa_cons (SEF.se (sef_lc (si_seq se_var) sgv_name (by decide) st_yes (se_call (sa_cons se_var sa_nil)))) sa_nil)) (se_op so_eq (se_cb sc_sort (sa_cons se_var sa_nil)) se_var))))
def T_order_line : TS :=
    tSeq (tAsg (tIf (tTest (tOp (rGtU K) (tCB (rLenQ K) (tCons (tVar 1) tNil)) (tC (.int 0)))) (tM1 (rJoinS K) (tC (.str ",")) (tLc (iSeq K (tVar 1)) (gName 3) tYes (tCB rStr1 (tCons (tVar 3) tNil)) [3])) (tC (.str "-"))) (gName 2))
    (tRet (tJoined [tFmt (tVar 0), (tC (.str " ")), tFmt (tVar 2)]))
theorem ss_order_line : SS T_order_line X_order_line := by
  unfold X_order_line T_order_line
  exact ss_seq (ss_asg (sg_name (by decide)) (sw_M (se_if (st_test (se_op so_gtU (se_cb sc_len (sa_cons se_var sa_nil)) se_int)) (se_m1 sm_join se_str (SEF.se (sef_lc (si_seq se_var) sgv_name (by decide) st_yes (se_cb sc_str1 (sa_cons se_var sa_nil))))) se_str)))
    (ss_ret (sw_M (se_joined (SEs.cons (se_fmt se_var) (SEs.cons se_str (SEs.cons (se_fmt se_var) SEs.nil))))))
def T_number_in : TS :=
    tSeq (tIfS (tOr (tNot (tB (tM0 rAscS (tVar 0)))) (tOr (tNot (tB (tM0 rDigS (tVar 0)))) (tTest (tOp (rGtU K) (tCB rLenS (tCons (tVar 0) tNil)) (tC (.int 13)))))) (tRet (tC .non)) tNext)
    (tSeq (tIfS (tAnd (tB (tM1 rStartS (tVar 0) (tC (.str "0")))) (tTest (tOp (rNeD K) (tVar 0) (tC (.str "0"))))) (tRet (tC .non)) tNext)
    (tRet (tCB rIntS (tCons (tVar 0) tNil))))
theorem ss_number_in : SS T_number_in X_number_in := by
  unfold X_number_in T_number_in
  exact ss_seq (ss_if (swt_M (st_or (st_not (st_B (se_m0 sm_asc se_var))) (st_or (st_not (st_B (se_m0 sm_dig se_var))) (st_test (se_op so_gtU (se_cb sc_lenS (sa_cons se_var sa_nil)) se_int))))) (ss_ret (sw_M se_non)) ss_next)
    (ss_seq (ss_if (swt_M (st_and (st_B (se_m1 sm_start se_var se_str)) (st_test (se_op so_ne se_var se_str)))) (ss_ret (sw_M se_non)) ss_next)
    (ss_ret (sw_M (se_cb sc_intS (sa_cons se_var sa_nil)))))
def T_roads_in : TS :=
    tSeq (tIfS (tTest (tOp (rEqX K) (tVar 0) (tC (.str "-")))) (tRet (tTupF tNil)) tNext)
    (tSeq (tAsg (tCB (rTupF K) (tCons (tLc (iSeq K (tM1 rSplitS (tVar 0) (tC (.str ",")))) (gName 2) tYes (tCall (spF F_number_in) [] E0 (tCons (tVar 2) tNil)) [2]) tNil)) (gName 1))
    (tRet (tIf (tTest (tOp (rInU K) (tC .non) (tVar 1))) (tC .non) (tVar 1))))
theorem ss_roads_in : SS T_roads_in X_roads_in := by
  unfold X_roads_in T_roads_in
  exact ss_seq (ss_if (swt_M (st_test (se_op so_eq se_var se_str))) (ss_ret (sw_M (se_tup sa_nil))) ss_next)
    (ss_seq (ss_asg (sg_name (by decide)) (sw_M (se_cb sc_tup (sa_cons (SEF.se (sef_lc (si_seq (se_m1 sm_split se_var se_str)) sgv_name (by decide) st_yes (se_call (sa_cons se_var sa_nil)))) sa_nil))))
    (ss_ret (sw_M (se_if (st_test (se_op so_in se_non se_var)) se_non se_var))))
def T_read_order_c (W : WX) (w : World) (cA : Nat → Addr) (dA : Addr) : TS :=
    tSeq (tIfS (tTest (tOp oLt (tVar 1) (tCB (rLenQ K) (tCons (tVar 0) tNil)))) (tSeq (tAsg (tCall (spF F_roads_in) [] E0 (tCons (tOp (rIx K) (tM1 rSplitS (tOp (rIx K) (tVar 0) (tVar 1)) (tC (.str " "))) (tUn oNeg (tC (.int 1)))) tNil)) (gName 4))
    (tIfS (tAnd (tB (tCall (spF F_is_order) [] E0 (tCons (tVar 4) (tCons (tVar 3) tNil)))) (tTest (tOp (rEqX K) (tCall (spF F_order_line) [] E0 (tCons (tVar 2) (tCons (tVar 4) tNil))) (tOp (rIx K) (tVar 0) (tVar 1))))) (tRet (tVar 4)) tNext)) tNext)
    (tRv W (cA 16) "line" (tVar 1))
theorem ss_read_order_c {W : WX} {mg : Str → Option Value} {w : World} {cA : Nat → Addr} {dA : Addr} (Z : HF mg w cA dA) : SSZ W (T_read_order_c W w cA dA) X_read_order_c := by
  unfold X_read_order_c T_read_order_c
  exact ssz_seq (ssz_of (ss_if (swt_M (st_test (se_op so_lt se_var (se_cb sc_len (sa_cons se_var sa_nil))))) (ss_seq (ss_asg (sg_name (by decide)) (sw_M (se_call (sa_cons (se_op so_ix (se_m1 sm_split (se_op so_ix se_var se_var) se_str) (se_un su_neg se_int)) sa_nil))))
    (ss_if (swt_M (st_and (st_B (se_call (sa_cons se_var (sa_cons se_var sa_nil)))) (st_test (se_op so_eq (se_call (sa_cons se_var (sa_cons se_var sa_nil))) (se_op so_ix se_var se_var))))) (ss_ret (sw_M se_var)) ss_next)) ss_next))
    (ssz_rz1 se_var (Z.cl 16 (by decide)) rfl)
def T_read_orders_c (W : WX) (w : World) (cA : Nat → Addr) (dA : Addr) : TS :=
    tRet (tCB (rTupF K) (tCons (tLcZ W (iRng1 (tCons (tVar 4) tNil)) (gName 5) tYes (fun W => tCallS (spZ F_read_order_c) (WE W) (tCons (tVar 0) (tCons (tOp (rAddU K) (tVar 1) (tVar 5)) (tCons (tVar 2) (tCons (tLc (iEnumU K (tCons (tVar 3) tNil)) (gTU K 2 (gCons (gName 6) (gCons (gName 7) gNil))) (tTest (tOp (rEqX K) (tVar 7) (tVar 5))) (tVar 6) [6, 7]) tNil))))) [5]) tNil))
theorem ss_read_orders_c {W : WX} {mg : Str → Option Value} {w : World} {cA : Nat → Addr} {dA : Addr} (Z : HF mg w cA dA) : SSZ W (T_read_orders_c W w cA dA) X_read_orders_c := by
  unfold X_read_orders_c T_read_orders_c
  exact ssz_ret (swz_M (sez_cbz sc_tup (sez_lcZ (si_rng (sa_cons se_var sa_nil)) sgv_name (by decide) st_yes (fun W => sez_call (sa_cons se_var (sa_cons (se_op so_add se_var se_var) (sa_cons se_var (sa_cons (SEF.se (sef_lc (si_enum (sa_cons se_var sa_nil)) (sgv_tup (sgv_cons sgv_name (sgv_cons sgv_name sgv_nil))) (by decide) (st_test (se_op so_eq se_var se_var)) se_var)) sa_nil))))))))
def T_is_number_to : TS :=
    tRet (tAndV (tCall (spF F_is_number) [] E0 (tCons (tVar 0) tNil)) (tChain oLe oLe (tC (.int 0)) (tVar 0) (tVar 1)))
theorem ss_is_number_to : SS T_is_number_to X_is_number_to := by
  unfold X_is_number_to T_is_number_to
  exact ss_ret (sw_M (se_and (se_call (sa_cons se_var sa_nil)) (se_chain so_le so_le se_int se_var se_var)))
def T_is_end : TS :=
    tRet (tOrV (tOp oIsU (tVar 0) (tC .non)) (tCall (spF F_is_number_to) [] E0 (tCons (tVar 0) (tCons (tOp oSub (tVar 1) (tC (.int 1))) tNil))))
theorem ss_is_end : SS T_is_end X_is_end := by
  unfold X_is_end T_is_end
  exact ss_ret (sw_M (se_or (se_op so_isU se_var se_non) (se_call (sa_cons se_var (sa_cons (se_op so_sub se_var se_int) sa_nil)))))
def T_is_tuple_of : TS :=
    tRet (tAndV (tCB (rIsi K) (tCons (tVar 0) (tCons (tC (.ty "tuple")) tNil))) (tChain oLe oLe (tVar 1) (tCB (rLenQ K) (tCons (tVar 0) tNil)) (tVar 2)))
theorem ss_is_tuple_of : SS T_is_tuple_of X_is_tuple_of := by
  unfold X_is_tuple_of T_is_tuple_of
  exact ss_ret (sw_M (se_and (se_isi .tuple rfl se_var) (se_chain so_le so_le se_var (se_cb sc_len (sa_cons se_var sa_nil)) se_var)))
def T_road_fault : TS :=
    tSeq (tIfS (tNot (tB (tCall (spF F_is_tuple_of) [] E0 (tCons (tVar 1) (tCons (tC (.int 3)) (tCons (tC (.int 3)) tNil)))))) (tRet (tTupF (tCons (tTupF (tCons (tC (.int 0)) (tCons (tVar 0) tNil))) (tCons (tC (.str "road")) tNil)))) tNext)
    (tSeq (tAsg (tVar 1) (gTU K 3 (gCons (gName 3) (gCons (gName 4) (gCons (gName 5) gNil)))))
    (tSeq (tIfS (tNot (tB (tCall (spF F_is_end) [] E0 (tCons (tVar 3) (tCons (tVar 2) tNil))))) (tRet (tTupF (tCons (tTupF (tCons (tC (.int 0)) (tCons (tVar 0) (tCons (tC (.int 0)) tNil)))) (tCons (tC (.str "begin")) tNil)))) tNext)
    (tSeq (tIfS (tNot (tB (tCall (spF F_is_end) [] E0 (tCons (tVar 4) (tCons (tVar 2) tNil))))) (tRet (tTupF (tCons (tTupF (tCons (tC (.int 0)) (tCons (tVar 0) (tCons (tC (.int 1)) tNil)))) (tCons (tC (.str "end")) tNil)))) tNext)
    (tSeq (tIfS (tTest (tOp (rEqX K) (tVar 3) (tVar 4))) (tRet (tTupF (tCons (tTupF (tCons (tC (.int 0)) (tCons (tVar 0) tNil))) (tCons (tC (.str "alike")) tNil)))) tNext)
    (tSeq (tIfS (tNot (tB (tCall (spF F_is_number_to) [] E0 (tCons (tVar 5) (tCons (tC (.int 1000000000000)) tNil))))) (tRet (tTupF (tCons (tTupF (tCons (tC (.int 0)) (tCons (tVar 0) (tCons (tC (.int 2)) tNil)))) (tCons (tC (.str "room")) tNil)))) tNext)
    (tRet (tC .non)))))))
theorem ss_road_fault : SS T_road_fault X_road_fault := by
  unfold X_road_fault T_road_fault
  exact ss_seq (ss_if (swt_M (st_not (st_B (se_call (sa_cons se_var (sa_cons se_int (sa_cons se_int sa_nil))))))) (ss_ret (sw_M (se_tup (sa_cons (se_tup (sa_cons se_int (sa_cons se_var sa_nil))) (sa_cons se_str sa_nil))))) ss_next)
    (ss_seq (ss_asg (sg_tup (sg_cons (sg_name (by decide)) (sg_cons (sg_name (by decide)) (sg_cons (sg_name (by decide)) sg_nil)))) (sw_M se_var))
    (ss_seq (ss_if (swt_M (st_not (st_B (se_call (sa_cons se_var (sa_cons se_var sa_nil)))))) (ss_ret (sw_M (se_tup (sa_cons (se_tup (sa_cons se_int (sa_cons se_var (sa_cons se_int sa_nil)))) (sa_cons se_str sa_nil))))) ss_next)
    (ss_seq (ss_if (swt_M (st_not (st_B (se_call (sa_cons se_var (sa_cons se_var sa_nil)))))) (ss_ret (sw_M (se_tup (sa_cons (se_tup (sa_cons se_int (sa_cons se_var (sa_cons se_int sa_nil)))) (sa_cons se_str sa_nil))))) ss_next)
    (ss_seq (ss_if (swt_M (st_test (se_op so_eq se_var se_var))) (ss_ret (sw_M (se_tup (sa_cons (se_tup (sa_cons se_int (sa_cons se_var sa_nil))) (sa_cons se_str sa_nil))))) ss_next)
    (ss_seq (ss_if (swt_M (st_not (st_B (se_call (sa_cons se_var (sa_cons se_int sa_nil)))))) (ss_ret (sw_M (se_tup (sa_cons (se_tup (sa_cons se_int (sa_cons se_var (sa_cons se_int sa_nil)))) (sa_cons se_str sa_nil))))) ss_next)
    (ss_ret (sw_M se_non)))))))
def T_end_word : TS :=
    tRet (tIf (tTest (tOp oIsU (tVar 0) (tC .non))) (tC (.str "-")) (tCB rStr1 (tCons (tVar 0) tNil)))
theorem ss_end_word : SS T_end_word X_end_word := by
  unfold X_end_word T_end_word
  exact ss_ret (sw_M (se_if (st_test (se_op so_isU se_var se_non)) se_str (se_cb sc_str1 (sa_cons se_var sa_nil))))
def T_road_line : TS :=
    tSeq (tAsg (tVar 0) (gTU K 3 (gCons (gName 1) (gCons (gName 2) (gCons (gName 3) gNil)))))
    (tRet (tJoined [(tC (.str "road ")), tFmt (tCall (spF F_end_word) [] E0 (tCons (tVar 1) tNil)), (tC (.str " ")), tFmt (tCall (spF F_end_word) [] E0 (tCons (tVar 2) tNil)), (tC (.str " ")), tFmt (tVar 3)]))
theorem ss_road_line : SS T_road_line X_road_line := by
  unfold X_road_line T_road_line
  exact ss_seq (ss_asg (sg_tup (sg_cons (sg_name (by decide)) (sg_cons (sg_name (by decide)) (sg_cons (sg_name (by decide)) sg_nil)))) (sw_M se_var))
    (ss_ret (sw_M (se_joined (SEs.cons se_str (SEs.cons (se_fmt (se_call (sa_cons se_var sa_nil))) (SEs.cons se_str (SEs.cons (se_fmt (se_call (sa_cons se_var sa_nil))) (SEs.cons se_str (SEs.cons (se_fmt se_var) SEs.nil)))))))))
theorem ss_X_read_roads_c_b1 {mg : Str → Option Value} {w : World} {cA : Nat → Addr} {dA : Addr} (Z : HF mg w cA dA) : SS (tSeq (tAsg (tCB (rTupF K) (tCons (tLc (iSeq K (tSl (rSlU K) (tM1 rSplitS (tVar 3) (tC (.str " "))) (tPart (tC (.int 1))) tNoPart)) (gName 5) tYes (tCall (spF F_number_in) [] E0 (tCons (tVar 5) tNil)) [5]) tNil)) (gName 4))
    (tSeq (tIfS (tOr (tTest (tOp oNotU (tCall (spF F_road_fault) [] E0 (tCons (tCB (rLenQ K) (tCons (tVar 2) tNil)) (tCons (tVar 4) (tCons (tVar 1) tNil)))) (tC .non))) (tTest (tOp (rNeD K) (tCall (spF F_road_line) [] E0 (tCons (tVar 4) tNil)) (tVar 3)))) tBreak tNext)
    (tDrop (tBM K "list" rAppend (tVar 2) (tCons (tVar 4) tNil))))) X_read_roads_c_b1 := by
  unfold X_read_roads_c_b1
  exact ss_seq (ss_asg (sg_name (by decide)) (sw_M (se_cb sc_tup (sa_cons (SEF.se (sef_lc (si_seq (se_sl (se_m1 sm_split se_var se_str) (sp_some se_int) sp_none)) sgv_name (by decide) st_yes (se_call (sa_cons se_var sa_nil)))) sa_nil))))
    (ss_seq (ss_if (swt_V (st_or (st_test (se_op so_isntU (se_call (sa_cons (se_cb sc_len (sa_cons se_var sa_nil)) (sa_cons se_var (sa_cons se_var sa_nil)))) se_non)) (st_test (se_op so_ne (se_call (sa_cons se_var sa_nil)) se_var)))) ss_break ss_next)
    (ss_app (sw_M se_var)))
def T_read_roads_c (W : WX) (w : World) (cA : Nat → Addr) (dA : Addr) : TS :=
    tSeq (tAsg (tLst tNil) (gName 2))
    (tSeq (tFor (iSeq K (tSl (rSlU K) (tVar 0) (tPart (tC (.int 1))) (tPart (tOp (rAddU K) (tC (.int 20)) (tC (.int 1)))))) (gName 3) (tSeq (tAsg (tCB (rTupF K) (tCons (tLc (iSeq K (tSl (rSlU K) (tM1 rSplitS (tVar 3) (tC (.str " "))) (tPart (tC (.int 1))) tNoPart)) (gName 5) tYes (tCall (spF F_number_in) [] E0 (tCons (tVar 5) tNil)) [5]) tNil)) (gName 4))
    (tSeq (tIfS (tOr (tTest (tOp oNotU (tCall (spF F_road_fault) [] E0 (tCons (tCB (rLenQ K) (tCons (tVar 2) tNil)) (tCons (tVar 4) (tCons (tVar 1) tNil)))) (tC .non))) (tTest (tOp (rNeD K) (tCall (spF F_road_line) [] E0 (tCons (tVar 4) tNil)) (tVar 3)))) tBreak tNext)
    (tDrop (tBM K "list" rAppend (tVar 2) (tCons (tVar 4) tNil))))))
    (tSeq (tIfS (tTest (tOp (rEqX K) (tCB (rLenQ K) (tCons (tVar 2) tNil)) (tC (.int 0)))) (tRv W (cA 16) "line" (tC (.int 1))) tNext)
    (tRet (tCB (rTupF K) (tCons (tVar 2) tNil)))))
theorem ss_read_roads_c {W : WX} {mg : Str → Option Value} {w : World} {cA : Nat → Addr} {dA : Addr} (Z : HF mg w cA dA) : SSZ W (T_read_roads_c W w cA dA) X_read_roads_c := by
  unfold X_read_roads_c T_read_roads_c
  exact ssz_seq (ssz_of (ss_own (by decide) (swo_lst swc_nil)))
    (ssz_seq (ssz_of (ss_for (swi_seq (sw_M (se_sl se_var (sp_some se_int) (sp_some (se_op so_add se_int se_int))))) (sg_name (by decide)) (ss_X_read_roads_c_b1 Z)))
    (ssz_fz (ssz_seq (ssz_if (swt_M (st_test (se_op so_eq (se_cb sc_len (sa_cons se_var sa_nil)) se_int))) (ssz_rz1 se_int (Z.cl 16 (by decide)) rfl) (ssz_of ss_next))
    (ssz_of (ss_ret (sw_M (se_cb sc_tup (sa_cons se_var sa_nil))))))))
def T_web_text : TS :=
    tSeq (tAsg (tVar 0) (gTU K 3 (gCons (gName 1) (gCons (gName 2) (gCons (gName 3) gNil)))))
    (tSeq (tAsg (tLst (tCons (tCall (spF F_houses_line) [] E0 (tCons (tCB (rLenQ K) (tCons (tVar 2) tNil)) tNil)) tNil)) (gName 4))
    (tSeq (tDrop (tBM K "list" rExtend (tVar 4) (tCons (tLc (iSeq K (tVar 1)) (gName 5) tYes (tCall (spF F_road_line) [] E0 (tCons (tVar 5) tNil)) [5]) tNil)))
    (tSeq (tDrop (tBM K "list" rExtend (tVar 4) (tCons (tLc (iSeq K (tVar 2)) (gName 6) tYes (tCall (spF F_order_line) [] E0 (tCons (tC (.str "give")) (tCons (tVar 6) tNil))) [6]) tNil)))
    (tSeq (tDrop (tBM K "list" rExtend (tVar 4) (tCons (tLc (iSeq K (tVar 3)) (gName 6) tYes (tCall (spF F_order_line) [] E0 (tCons (tC (.str "take")) (tCons (tVar 6) tNil))) [6]) tNil)))
    (tRet (tM1 (rJoinS K) (tC (.str "")) (tLc (iSeq K (tVar 4)) (gName 7) tYes (tOp (rAddX K) (tVar 7) (tC (.str "\n"))) [7])))))))
theorem ss_web_text : SS T_web_text X_web_text := by
  unfold X_web_text T_web_text
  exact ss_seq (ss_asg (sg_tup (sg_cons (sg_name (by decide)) (sg_cons (sg_name (by decide)) (sg_cons (sg_name (by decide)) sg_nil)))) (sw_M se_var))
    (ss_seq (ss_own (by decide) (swo_lst (swc_dat (sw_M (se_call (sa_cons (se_cb sc_len (sa_cons se_var sa_nil)) sa_nil))) swc_nil)))
    (ss_seq (ss_ext (sw_M (SEF.se (sef_lc (si_seq se_var) sgv_name (by decide) st_yes (se_call (sa_cons se_var sa_nil))))))
    (ss_seq (ss_ext (sw_M (SEF.se (sef_lc (si_seq se_var) sgv_name (by decide) st_yes (se_call (sa_cons se_str (sa_cons se_var sa_nil)))))))
    (ss_seq (ss_ext (sw_M (SEF.se (sef_lc (si_seq se_var) sgv_name (by decide) st_yes (se_call (sa_cons se_str (sa_cons se_var sa_nil)))))))
    (ss_fz (ss_ret (sw_M (se_m1 sm_join se_str (SEF.se (sef_lc (si_seq se_var) sgv_name (by decide) st_yes (se_op so_addX se_var se_str)))))))))))
def T_read_web_c (W : WX) (w : World) (cA : Nat → Addr) (dA : Addr) : TS :=
    tSeq (tDrop (tCallS (spZ F_check_text_c) (WE W) (tCons (tVar 0) tNil)))
    (tSeq (tAsg (tM1 rSplitS (tVar 0) (tC (.str "\n"))) (gName 1))
    (tSeq (tAsg (tCallS (spZ F_read_houses_c) (WE W) (tCons (tVar 1) tNil)) (gName 2))
    (tSeq (tAsg (tCallS (spZ F_read_roads_c) (WE W) (tCons (tVar 1) (tCons (tVar 2) tNil))) (gName 3))
    (tSeq (tAsg (tCallS (spZ F_read_orders_c) (WE W) (tCons (tVar 1) (tCons (tOp (rAddU K) (tC (.int 1)) (tCB (rLenQ K) (tCons (tVar 3) tNil))) (tCons (tC (.str "give")) (tCons (tLc (iSeq K (tVar 3)) (gTU K 3 (gCons (gName 7) (gCons (gName 8) (gCons (gName 9) gNil)))) tYes (tVar 7) [7, 8, 9]) (tCons (tVar 2) tNil)))))) (gName 4))
    (tSeq (tAsg (tCallS (spZ F_read_orders_c) (WE W) (tCons (tVar 1) (tCons (tOp (rAddU K) (tOp (rAddU K) (tC (.int 1)) (tCB (rLenQ K) (tCons (tVar 3) tNil))) (tVar 2)) (tCons (tC (.str "take")) (tCons (tLc (iSeq K (tVar 3)) (gTU K 3 (gCons (gName 7) (gCons (gName 8) (gCons (gName 9) gNil)))) tYes (tVar 8) [7, 8, 9]) (tCons (tVar 2) tNil)))))) (gName 5))
    (tSeq (tAsg (tTupF (tCons (tVar 3) (tCons (tVar 4) (tCons (tVar 5) tNil)))) (gName 6))
    (tSeq (tIfS (tTest (tOp (rNeD K) (tCall (spF F_web_text) [] E0 (tCons (tVar 6) tNil)) (tVar 0))) (tRv W (cA 16) "line" (tOp (rAddU K) (tOp (rAddU K) (tC (.int 1)) (tCB (rLenQ K) (tCons (tVar 3) tNil))) (tOp (rMulV K) (tC (.int 2)) (tVar 2)))) tNext)
    (tRet (tVar 6)))))))))
theorem ss_read_web_c {W : WX} {mg : Str → Option Value} {w : World} {cA : Nat → Addr} {dA : Addr} (Z : HF mg w cA dA) : SSZ W (T_read_web_c W w cA dA) X_read_web_c := by
  unfold X_read_web_c T_read_web_c
  exact ssz_seq (ssz_drop (swz_M (sez_call (sa_cons se_var sa_nil))))
    (ssz_seq (ssz_of (ss_asg (sg_name (by decide)) (sw_M (se_m1 sm_split se_var se_str))))
    (ssz_seq (ssz_asg (by decide) (swz_M (sez_call (sa_cons se_var sa_nil))))
    (ssz_seq (ssz_asg (by decide) (swz_M (sez_call (sa_cons se_var (sa_cons se_var sa_nil)))))
    (ssz_seq (ssz_asg (by decide) (swz_M (sez_call (sa_cons se_var (sa_cons (se_op so_add se_int (se_cb sc_len (sa_cons se_var sa_nil))) (sa_cons se_str (sa_cons (SEF.se (sef_lc (si_seq se_var) (sgv_tup (sgv_cons sgv_name (sgv_cons sgv_name (sgv_cons sgv_name sgv_nil)))) (by decide) st_yes se_var)) (sa_cons se_var sa_nil))))))))
    (ssz_seq (ssz_asg (by decide) (swz_M (sez_call (sa_cons se_var (sa_cons (se_op so_add (se_op so_add se_int (se_cb sc_len (sa_cons se_var sa_nil))) se_var) (sa_cons se_str (sa_cons (SEF.se (sef_lc (si_seq se_var) (sgv_tup (sgv_cons sgv_name (sgv_cons sgv_name (sgv_cons sgv_name sgv_nil)))) (by decide) st_yes se_var)) (sa_cons se_var sa_nil))))))))
    (ssz_seq (ssz_of (ss_asg (sg_name (by decide)) (sw_M (se_tup (sa_cons se_var (sa_cons se_var (sa_cons se_var sa_nil)))))))
    (ssz_seq (ssz_if (swt_M (st_test (se_op so_ne (se_call (sa_cons se_var sa_nil)) se_var))) (ssz_rz1 (se_op so_add (se_op so_add se_int (se_cb sc_len (sa_cons se_var sa_nil))) (se_op so_mulV se_int se_var)) (Z.cl 16 (by decide)) rfl) (ssz_of ss_next))
    (ssz_of (ss_ret (sw_M se_var))))))))))
def T__law_told_w (w : World) (cA : Nat → Addr) (dA : Addr) : TS :=
    tSeq (tAsg (tC .non) (gName 1))
    (tSeq (tTryG (fun W => tAsg (tLst (tCons (tC (.str "web")) (tCons (tCall (spF F_web_text) [] E0 (tCons (tCallS (spZ F_read_web_c) (WE W) (tCons (tVar 0) tNil)) tNil)) tNil))) (gName 1)) (wAsH (fun cls => PySem.W.exmOne K cls (.ref (cA 0))) 2 (tSeq (tAsg (tLst (tCons (tC (.str "other")) (tCons (tC .non) tNil))) (gName 1))
    (tIfS (tAnd (tB (tCB (rIsX K) (tCons (tVar 2) (tCons (tC (.ref (cA 16))) tNil)))) (tNot (tB (tCB (rIsXT K) (tCons (tVar 2) (tCons (tTup (tCons (tC (.ref (cA 5))) (tCons (tC (.ref (cA 1))) (tCons (tC (.ref (cA 11))) (tCons (tC (.ref (cA 15))) tNil))))) tNil)))))) (tAsg (tLst (tCons (tC (.str "no")) (tCons (tXat K "line" (tVar 2)) tNil))) (gName 1)) tNext)) (whNil fun _ _ _ _ => False)))
    (tRet (tVar 1)))
theorem ss__law_told_w {mg : Str → Option Value} {w : World} {cA : Nat → Addr} {dA : Addr} (Z : HF mg w cA dA) : SS (T__law_told_w w cA dA) X__law_told_w := by
  unfold X__law_told_w T__law_told_w
  exact ss_seq (ss_asg (sg_name (by decide)) (sw_M se_non))
    (ss_seq (ss_noZ (ssz_tryH (fun W => ssz_asg (by decide) (swz_M (sez_lstZ (sez_call1 (sez_call (sa_cons se_var sa_nil)))))) (.cons Z.em_k78_WebError (ss_seq (ss_asg (sg_name (by decide)) (sw_M (SEF.se (sef_lst (sa_cons se_str (sa_cons se_non sa_nil))))))
    (ss_if (swt_M (st_and (st_B (se_isX Z.ex (fun _ h => h) Z.it_NoText se_var)) (st_not (st_B (se_isX4 Z.ex Z.it_BadOrder Z.it_BadWeb Z.it_Broken Z.it_NoStream se_var))))) (ss_asg (sg_name (by decide)) (sw_M (SEF.se (sef_lst (sa_cons se_str (sa_cons (se_xat Z.xf_line se_var) sa_nil)))))) ss_next)) (by decide) .nil)))
    (ss_ret (sw_M se_var)))
theorem ss_X__law_order_b1 : SS (tDrop (tBM K "list" rInsQ (tVar 2) (tCons (tCall (spW F__law_next) [] E0 (tCons (tVar 0) (tCons (tOp (rAddU K) (tCB (rLenQ K) (tCons (tVar 2) tNil)) (tC (.int 1))) tNil))) (tCons (tVar 3) tNil)))) X__law_order_b1 := by
  unfold X__law_order_b1
  exact ss_ins (swa_cons (sw_callK (swa_cons (sw_V (se_op so_add (se_cb sc_len (sa_cons se_var sa_nil)) se_int)) swa_nil)) (swa_cons (sw_M se_var) swa_nil))
def T__law_order : TS :=
    tSeq (tAsg (tLst tNil) (gName 2))
    (tSeq (tFor (iSeq K (tVar 1)) (gName 3) (tDrop (tBM K "list" rInsQ (tVar 2) (tCons (tCall (spW F__law_next) [] E0 (tCons (tVar 0) (tCons (tOp (rAddU K) (tCB (rLenQ K) (tCons (tVar 2) tNil)) (tC (.int 1))) tNil))) (tCons (tVar 3) tNil)))))
    (tRet (tCB (rTupF K) (tCons (tVar 2) tNil))))
theorem ss__law_order : SS T__law_order X__law_order := by
  unfold X__law_order T__law_order
  exact ss_seq (ss_own (by decide) (swo_lst swc_nil))
    (ss_seq (ss_for (swi_seq (sw_M se_var)) (sg_name (by decide)) ss_X__law_order_b1)
    (ss_fz (ss_ret (sw_M (se_cb sc_tup (sa_cons se_var sa_nil))))))
def T__law_one : TS :=
    tRet (tOp (rIx K) (tVar 1) (tCall (spW F__law_next) [] E0 (tCons (tVar 0) (tCons (tCB (rLenQ K) (tCons (tVar 1) tNil)) tNil))))
theorem ss__law_one : SS T__law_one X__law_one := by
  unfold X__law_one T__law_one
  exact ss_ret (sw_op so_ix (sw_M se_var) (sw_callK (swa_cons (sw_M (se_cb sc_len (sa_cons se_var sa_nil))) swa_nil)))
def T__law_room : TS :=
    tSeq (tAsg (tCall (spW F__law_one) [] E0 (tCons (tVar 0) (tCons (tLst (tCons (tC (.int 0)) (tCons (tC (.int 1)) (tCons (tC (.int 1)) (tCons (tC (.int 2)) (tCons (tC (.int 3)) (tCons (tC (.int 5)) tNil))))))) tNil))) (gName 2))
    (tSeq (tAsg (tCall (spW F__law_one) [] E0 (tCons (tVar 0) (tCons (tLst (tCons (tC (.int 1)) (tCons (tC (.int 2)) (tCons (tOp oPow (tC (.int 10)) (tC (.int 12))) (tCons (tOp oSub (tOp oPow (tC (.int 10)) (tC (.int 12))) (tCall (spW F__law_next) [] E0 (tCons (tVar 0) (tCons (tC (.int 3)) tNil)))) (tCons (tCall (spW F__law_next) [] E0 (tCons (tVar 0) (tCons (tOp oPow (tC (.int 10)) (tC (.int 12))) tNil))) tNil)))))) tNil))) (gName 3))
    (tRet (tOp (rIx K) (tLst (tCons (tVar 2) (tCons (tVar 3) tNil))) (tCB rIntQ (tCons (tVar 1) tNil)))))
theorem ss__law_room : SS T__law_room X__law_room := by
  unfold X__law_room T__law_room
  exact ss_seq (ss_asg (sg_name (by decide)) (sw_callK (swa_cons (sw_M (SEF.se (sef_lst (sa_cons se_int (sa_cons se_int (sa_cons se_int (sa_cons se_int (sa_cons se_int (sa_cons se_int sa_nil))))))))) swa_nil)))
    (ss_seq (ss_asg (sg_name (by decide)) (sw_callK (swa_cons (sw_lst (swa_cons (sw_M se_int) (swa_cons (sw_M se_int) (swa_cons (sw_M (se_op so_pow se_int se_int)) (swa_cons (sw_op so_sub (sw_M (se_op so_pow se_int se_int)) (sw_callK (swa_cons (sw_M se_int) swa_nil))) (swa_cons (sw_callK (swa_cons (sw_M (se_op so_pow se_int se_int)) swa_nil)) swa_nil)))))) swa_nil)))
    (ss_ret (sw_M (se_op so_ix (SEF.se (sef_lst (sa_cons se_var (sa_cons se_var sa_nil)))) (se_cb sc_int (sa_cons se_var sa_nil))))))
def T__law_road : TS :=
    tSeq (tAsg (tCall (spW F__law_next) [] E0 (tCons (tVar 0) (tCons (tOp (rAddU K) (tVar 1) (tC (.int 1))) tNil))) (gName 3))
    (tSeq (tAsg (tOp oMod (tOp (rAddU K) (tOp (rAddU K) (tVar 3) (tC (.int 1))) (tCall (spW F__law_next) [] E0 (tCons (tVar 0) (tCons (tVar 1) tNil)))) (tOp (rAddU K) (tVar 1) (tC (.int 1)))) (gName 4))
    (tSeq (tAsg (tLc (iSeq K (tTupF (tCons (tVar 3) (tCons (tVar 4) tNil)))) (gName 7) tYes (tOp (rIx K) (tLst (tCons (tC .non) (tCons (tOp oSub (tVar 7) (tC (.int 1))) tNil))) (tCB rIntQ (tCons (tOp (rGtU K) (tVar 7) (tC (.int 0))) tNil))) [7]) (gTU K 2 (gCons (gName 5) (gCons (gName 6) gNil))))
    (tRet (tTupF (tCons (tVar 5) (tCons (tVar 6) (tCons (tCall (spW F__law_room) [] E0 (tCons (tVar 0) (tCons (tVar 2) tNil))) tNil)))))))
theorem ss__law_road : SS T__law_road X__law_road := by
  unfold X__law_road T__law_road
  exact ss_seq (ss_asg (sg_name (by decide)) (sw_callK (swa_cons (sw_M (se_op so_add se_var se_int)) swa_nil)))
    (ss_seq (ss_asg (sg_name (by decide)) (sw_op so_mod (sw_op so_add (sw_M (se_op so_add se_var se_int)) (sw_callK (swa_cons (sw_M se_var) swa_nil))) (sw_M (se_op so_add se_var se_int))))
    (ss_seq (ss_asg (sg_tup (sg_cons (sg_name (by decide)) (sg_cons (sg_name (by decide)) sg_nil))) (sw_M (SEF.se (sef_lc (si_seq (se_tup (sa_cons se_var (sa_cons se_var sa_nil)))) sgv_name (by decide) st_yes (se_op so_ix (SEF.se (sef_lst (sa_cons se_non (sa_cons (se_op so_sub se_var se_int) sa_nil)))) (se_cb sc_int (sa_cons (se_op so_gtU se_var se_int) sa_nil)))))))
    (ss_ret (sw_tup (swa_cons (sw_M se_var) (swa_cons (sw_M se_var) (swa_cons (sw_callK (swa_cons (sw_M se_var) swa_nil)) swa_nil)))))))
theorem ss_X__law_web_b1 : SS (tDrop (tBM K "list" rAppend (tVar 8) (tCons (tCall (spW F__law_order) [] E0 (tCons (tVar 0) (tCons (tLc (iRng1 (tCons (tCB (rLenQ K) (tCons (tVar 5) tNil)) tNil)) (gName 10) (tTest (tOp (rEqX K) (tOp (rIx K) (tOp (rIx K) (tVar 5) (tVar 10)) (tVar 7)) (tVar 9))) (tVar 10) [10]) tNil))) tNil))) X__law_web_b1 := by
  unfold X__law_web_b1
  exact ss_app (sw_callK (swa_cons (sw_M (SEF.se (sef_lc (si_rng (sa_cons (se_cb sc_len (sa_cons se_var sa_nil)) sa_nil)) sgv_name (by decide) (st_test (se_op so_eq (se_op so_ix (se_op so_ix se_var se_var) se_var) se_var)) se_var))) swa_nil))
theorem ss_X__law_web_b2 : SS (tSeq (tAsg (tLst tNil) (gName 8))
    (tSeq (tFor (iRng1 (tCons (tVar 4) tNil)) (gName 9) (tDrop (tBM K "list" rAppend (tVar 8) (tCons (tCall (spW F__law_order) [] E0 (tCons (tVar 0) (tCons (tLc (iRng1 (tCons (tCB (rLenQ K) (tCons (tVar 5) tNil)) tNil)) (gName 10) (tTest (tOp (rEqX K) (tOp (rIx K) (tOp (rIx K) (tVar 5) (tVar 10)) (tVar 7)) (tVar 9))) (tVar 10) [10]) tNil))) tNil))))
    (tDrop (tBM K "list" rAppend (tVar 6) (tCons (tCB (rTupF K) (tCons (tVar 8) tNil)) tNil))))) X__law_web_b2 := by
  unfold X__law_web_b2
  exact ss_seq (ss_own (by decide) (swo_lst swc_nil))
    (ss_seq (ss_for (swi_rng (swa_cons (sw_M se_var) swa_nil)) (sg_name (by decide)) ss_X__law_web_b1)
    (ss_fz (ss_app (sw_M (se_cb sc_tup (sa_cons se_var sa_nil))))))
def T__law_web : TS :=
    tSeq (tAsg (tOp (rAddU K) (tC (.int 1)) (tCall (spW F__law_next) [] E0 (tCons (tVar 0) (tCons (tVar 1) tNil)))) (gName 4))
    (tSeq (tAsg (tLc (iRng1 (tCons (tOp (rAddU K) (tC (.int 1)) (tCall (spW F__law_next) [] E0 (tCons (tVar 0) (tCons (tVar 2) tNil)))) tNil)) (gName 10) tYes (tCall (spW F__law_road) [] E0 (tCons (tVar 0) (tCons (tVar 4) (tCons (tVar 3) tNil)))) [10]) (gName 5))
    (tSeq (tAsg (tLst tNil) (gName 6))
    (tSeq (tFor (iSeq K (tTupF (tCons (tC (.int 0)) (tCons (tC (.int 1)) tNil)))) (gName 7) (tSeq (tAsg (tLst tNil) (gName 8))
    (tSeq (tFor (iRng1 (tCons (tVar 4) tNil)) (gName 9) (tDrop (tBM K "list" rAppend (tVar 8) (tCons (tCall (spW F__law_order) [] E0 (tCons (tVar 0) (tCons (tLc (iRng1 (tCons (tCB (rLenQ K) (tCons (tVar 5) tNil)) tNil)) (gName 10) (tTest (tOp (rEqX K) (tOp (rIx K) (tOp (rIx K) (tVar 5) (tVar 10)) (tVar 7)) (tVar 9))) (tVar 10) [10]) tNil))) tNil))))
    (tDrop (tBM K "list" rAppend (tVar 6) (tCons (tCB (rTupF K) (tCons (tVar 8) tNil)) tNil))))))
    (tRet (tTupF (tCons (tCB (rTupF K) (tCons (tVar 5) tNil)) (tCons (tOp (rIx K) (tVar 6) (tC (.int 0))) (tCons (tOp (rIx K) (tVar 6) (tC (.int 1))) tNil))))))))
theorem ss__law_web : SS T__law_web X__law_web := by
  unfold X__law_web T__law_web
  exact ss_seq (ss_asg (sg_name (by decide)) (sw_op so_add (sw_M se_int) (sw_callK (swa_cons (sw_M se_var) swa_nil))))
    (ss_seq (ss_asg (sg_name (by decide)) (sw_fz (swo_lc (swi_rng (swa_cons (sw_op so_add (sw_M se_int) (sw_callK (swa_cons (sw_M se_var) swa_nil))) swa_nil)) (sg_name (by decide)) (by decide) (by decide) (swt_M st_yes) (sw_callK (swa_cons (sw_M se_var) (swa_cons (sw_M se_var) swa_nil))))))
    (ss_seq (ss_own (by decide) (swo_lst swc_nil))
    (ss_seq (ss_for (swi_seq (sw_M (se_tup (sa_cons se_int (sa_cons se_int sa_nil))))) (sg_name (by decide)) ss_X__law_web_b2)
    (ss_fz (ss_ret (sw_M (se_tup (sa_cons (se_cb sc_tup (sa_cons se_var sa_nil)) (sa_cons (se_op so_ix se_var se_int) (sa_cons (se_op so_ix se_var se_int) sa_nil))))))))))
theorem ss_X_law_z202_b1 : SS (tSeq (tAsg (tCall (spW F__law_spoilt_c) [] E0 (tCons (tVar 1) (tCons (tVar 3) tNil))) (gName 6))
    (tSeq (tIfS (tTest (tOp (rEqX K) (tCall (spW F__law_next) [] E0 (tCons (tVar 1) (tCons (tC (.int 3)) tNil))) (tC (.int 0)))) (tAsg (tCall (spW F__law_spoilt_c) [] E0 (tCons (tVar 1) (tCons (tVar 6) tNil))) (gName 6)) tNext)
    (tDrop (tBM K "list" rAppend (tVar 4) (tCons (tVar 6) tNil))))) X_law_z202_b1 := by
  unfold X_law_z202_b1
  exact ss_seq (ss_asg (sg_name (by decide)) (sw_callK (swa_cons (sw_M se_var) swa_nil)))
    (ss_seq (ss_if (swt_test (sw_op so_eq (sw_callK (swa_cons (sw_M se_int) swa_nil)) (sw_M se_int))) (ss_asg (sg_name (by decide)) (sw_callK (swa_cons (sw_M se_var) swa_nil))) ss_next)
    (ss_app (sw_M se_var)))
theorem ss_X_law_z202_b2 : SS (tSeq (tAsg (tCall (spF F__law_text_fault_b) [] E0 (tCons (tVar 6) tNil)) (gName 7))
    (tSeq (tAsg (tLst (tCons (tC (.str "no")) (tCons (tVar 7) tNil))) (gName 8))
    (tSeq (tIfS (tTest (tOp (rEqX K) (tVar 7) (tUn oNeg (tC (.int 1))))) (tAsg (tLst (tCons (tC (.str "web")) (tCons (tVar 6) tNil))) (gName 8)) tNext)
    (tIfS (tOr (tTest (tOp (rNeD K) (tCB (rRepr K) (tCons (tCall (spF F__law_told_w) [] E0 (tCons (tVar 6) tNil)) tNil)) (tCB (rRepr K) (tCons (tVar 8) tNil)))) (tTest (tOp (rNeD K) (tCB (rRepr K) (tCons (tCall (spF F__law_told_w) [] E0 (tCons (tVar 6) tNil)) tNil)) (tCB (rRepr K) (tCons (tVar 8) tNil))))) (tRet (tC (.bl false))) tNext)))) X_law_z202_b2 := by
  unfold X_law_z202_b2
  exact ss_seq (ss_asg (sg_name (by decide)) (sw_M (se_call (sa_cons se_var sa_nil))))
    (ss_seq (ss_asg (sg_name (by decide)) (sw_M (SEF.se (sef_lst (sa_cons se_str (sa_cons se_var sa_nil))))))
    (ss_seq (ss_if (swt_M (st_test (se_op so_eq se_var (se_un su_neg se_int)))) (ss_asg (sg_name (by decide)) (sw_M (SEF.se (sef_lst (sa_cons se_str (sa_cons se_var sa_nil)))))) ss_next)
    (ss_if (swt_M (st_or (st_test (se_op so_ne (se_cb sc_repr (sa_cons (se_call (sa_cons se_var sa_nil)) sa_nil)) (se_cb sc_repr (sa_cons se_var sa_nil)))) (st_test (se_op so_ne (se_cb sc_repr (sa_cons (se_call (sa_cons se_var sa_nil)) sa_nil)) (se_cb sc_repr (sa_cons se_var sa_nil)))))) (ss_fz (ss_ret (sw_M se_bl))) ss_next)))
theorem ss_X_law_z202_b3 : SS (tSeq (tAsg (tCall (spF F_web_text) [] E0 (tCons (tCall (spW F__law_web) [] E0 (tCons (tVar 1) (tCons (tC (.int 8)) (tCons (tC (.int 20)) (tCons (tOp (rEqX K) (tCall (spW F__law_next) [] E0 (tCons (tVar 1) (tCons (tC (.int 2)) tNil))) (tC (.int 0))) tNil))))) tNil)) (gName 3))
    (tSeq (tAsg (tLst (tCons (tVar 3) (tCons (tOp (rAddX K) (tVar 3) (tC (.str "\n"))) (tCons (tSl rSlS (tVar 3) tNoPart (tPart (tUn oNeg (tC (.int 1))))) (tCons (tC (.str "")) (tCons (tC (.str "\n")) (tCons (tC (.str "houses 9\n")) (tCons (tC (.str "houses 1\n")) tNil)))))))) (gName 4))
    (tSeq (tFor (iRng1 (tCons (tC (.int 24)) tNil)) (gName 5) (tSeq (tAsg (tCall (spW F__law_spoilt_c) [] E0 (tCons (tVar 1) (tCons (tVar 3) tNil))) (gName 6))
    (tSeq (tIfS (tTest (tOp (rEqX K) (tCall (spW F__law_next) [] E0 (tCons (tVar 1) (tCons (tC (.int 3)) tNil))) (tC (.int 0)))) (tAsg (tCall (spW F__law_spoilt_c) [] E0 (tCons (tVar 1) (tCons (tVar 6) tNil))) (gName 6)) tNext)
    (tDrop (tBM K "list" rAppend (tVar 4) (tCons (tVar 6) tNil))))))
    (tFor (iSeq K (tOp (rAddX K) (tVar 4) (tLst (tCons (tC .non) (tCons (tC (.int 0)) (tCons (tC (.bl true)) (tCons (tTupF (tCons (tVar 3) tNil)) (tCons (tLst (tCons (tVar 3) tNil)) (tCons tDNewK tNil))))))))) (gName 6) (tSeq (tAsg (tCall (spF F__law_text_fault_b) [] E0 (tCons (tVar 6) tNil)) (gName 7))
    (tSeq (tAsg (tLst (tCons (tC (.str "no")) (tCons (tVar 7) tNil))) (gName 8))
    (tSeq (tIfS (tTest (tOp (rEqX K) (tVar 7) (tUn oNeg (tC (.int 1))))) (tAsg (tLst (tCons (tC (.str "web")) (tCons (tVar 6) tNil))) (gName 8)) tNext)
    (tIfS (tOr (tTest (tOp (rNeD K) (tCB (rRepr K) (tCons (tCall (spF F__law_told_w) [] E0 (tCons (tVar 6) tNil)) tNil)) (tCB (rRepr K) (tCons (tVar 8) tNil)))) (tTest (tOp (rNeD K) (tCB (rRepr K) (tCons (tCall (spF F__law_told_w) [] E0 (tCons (tVar 6) tNil)) tNil)) (tCB (rRepr K) (tCons (tVar 8) tNil))))) (tRet (tC (.bl false))) tNext)))))))) X_law_z202_b3 := by
  unfold X_law_z202_b3
  exact ss_seq (ss_asg (sg_name (by decide)) (sw_call (swa_cons (sw_callK (swa_cons (sw_M se_int) (swa_cons (sw_M se_int) (swa_cons (sw_op so_eq (sw_callK (swa_cons (sw_M se_int) swa_nil)) (sw_M se_int)) swa_nil)))) swa_nil)))
    (ss_seq (ss_own (by decide) (swo_lst (swc_dat (sw_M se_var) (swc_dat (sw_M (se_op so_addX se_var se_str)) (swc_dat (sw_M (se_slS se_var sp_none (sp_some (se_un su_neg se_int)))) (swc_dat (sw_M se_str) (swc_dat (sw_M se_str) (swc_dat (sw_M se_str) (swc_dat (sw_M se_str) swc_nil)))))))))
    (ss_seq (ss_for (swi_rng (swa_cons (sw_M se_int) swa_nil)) (sg_name (by decide)) ss_X_law_z202_b1)
    (ss_fz (ss_for (swi_seq (sw_M (se_op so_addX se_var (SEF.se (sef_lst (sa_cons se_non (sa_cons se_int (sa_cons se_bl (sa_cons (se_tup (sa_cons se_var sa_nil)) (sa_cons (SEF.se (sef_lst (sa_cons se_var sa_nil))) (sa_cons se_d0 sa_nil))))))))))) (sg_name (by decide)) ss_X_law_z202_b2))))
def T_law_z202 : TS :=
    tSeq (tAsg (tCall (spD F__law_deck_h) [] E0 (tCons (tVar 0) tNil)) (gName 1))
    (tSeq (tFor (iRng1 (tCons (tC (.int 4)) tNil)) (gName 2) (tSeq (tAsg (tCall (spF F_web_text) [] E0 (tCons (tCall (spW F__law_web) [] E0 (tCons (tVar 1) (tCons (tC (.int 8)) (tCons (tC (.int 20)) (tCons (tOp (rEqX K) (tCall (spW F__law_next) [] E0 (tCons (tVar 1) (tCons (tC (.int 2)) tNil))) (tC (.int 0))) tNil))))) tNil)) (gName 3))
    (tSeq (tAsg (tLst (tCons (tVar 3) (tCons (tOp (rAddX K) (tVar 3) (tC (.str "\n"))) (tCons (tSl rSlS (tVar 3) tNoPart (tPart (tUn oNeg (tC (.int 1))))) (tCons (tC (.str "")) (tCons (tC (.str "\n")) (tCons (tC (.str "houses 9\n")) (tCons (tC (.str "houses 1\n")) tNil)))))))) (gName 4))
    (tSeq (tFor (iRng1 (tCons (tC (.int 24)) tNil)) (gName 5) (tSeq (tAsg (tCall (spW F__law_spoilt_c) [] E0 (tCons (tVar 1) (tCons (tVar 3) tNil))) (gName 6))
    (tSeq (tIfS (tTest (tOp (rEqX K) (tCall (spW F__law_next) [] E0 (tCons (tVar 1) (tCons (tC (.int 3)) tNil))) (tC (.int 0)))) (tAsg (tCall (spW F__law_spoilt_c) [] E0 (tCons (tVar 1) (tCons (tVar 6) tNil))) (gName 6)) tNext)
    (tDrop (tBM K "list" rAppend (tVar 4) (tCons (tVar 6) tNil))))))
    (tFor (iSeq K (tOp (rAddX K) (tVar 4) (tLst (tCons (tC .non) (tCons (tC (.int 0)) (tCons (tC (.bl true)) (tCons (tTupF (tCons (tVar 3) tNil)) (tCons (tLst (tCons (tVar 3) tNil)) (tCons tDNewK tNil))))))))) (gName 6) (tSeq (tAsg (tCall (spF F__law_text_fault_b) [] E0 (tCons (tVar 6) tNil)) (gName 7))
    (tSeq (tAsg (tLst (tCons (tC (.str "no")) (tCons (tVar 7) tNil))) (gName 8))
    (tSeq (tIfS (tTest (tOp (rEqX K) (tVar 7) (tUn oNeg (tC (.int 1))))) (tAsg (tLst (tCons (tC (.str "web")) (tCons (tVar 6) tNil))) (gName 8)) tNext)
    (tIfS (tOr (tTest (tOp (rNeD K) (tCB (rRepr K) (tCons (tCall (spF F__law_told_w) [] E0 (tCons (tVar 6) tNil)) tNil)) (tCB (rRepr K) (tCons (tVar 8) tNil)))) (tTest (tOp (rNeD K) (tCB (rRepr K) (tCons (tCall (spF F__law_told_w) [] E0 (tCons (tVar 6) tNil)) tNil)) (tCB (rRepr K) (tCons (tVar 8) tNil))))) (tRet (tC (.bl false))) tNext)))))))))
    (tRet (tC (.bl true))))
theorem ss_law_z202 : SS T_law_z202 X_law_z202 := by
  unfold X_law_z202 T_law_z202
  exact ss_seq (ss_own (by decide) (sw_callD (swa_cons (sw_M se_var) swa_nil)))
    (ss_seq (ss_for (swi_rng (swa_cons (sw_M se_int) swa_nil)) (sg_name (by decide)) ss_X_law_z202_b3)
    (ss_fz (ss_ret (sw_M se_bl))))
end
end Fn
namespace Fn
open PySem PySem.Spec PyProof.Rows L2 Uv
end Fn

namespace Uv
open PySem PySem.Spec PyProof.Rows L2
@[simp] theorem q_toInt_b {b : Bool} : toIntP (.bool b) = some (.int (if b = true then 1 else 0)) := by cases b <;> rfl
@[simp] theorem q_toInt_i {i : Int} : toIntP (.int i) = some (.int i) := (rfl)
theorem mkWeb {rs : List Road} {gs ts : List (List Nat)} {m : Nat} (m1 : 1 ≤ m) (m8 : m ≤ 8) (r1 : 1 ≤ rs.length) (r20 : rs.length ≤ 20) (hr : ∀ x ∈ rs, OkRoad m x) (hg : gs.length = m) (ht : ts.length = m) (pg : ∀ (h : Nat) (l : List Nat), gs[h]? = some l → l.Perm (atR rs 0 h)) (pt : ∀ (h : Nat) (l : List Nat), ts[h]? = some l → l.Perm (atR rs 1 h)) : IsWeb ⟨rs, gs, ts⟩ :=
  ⟨⟨by show 1 ≤ gs.length; omega, by show gs.length ≤ 8; omega⟩, by show ts.length = gs.length; omega, ⟨r1, r20⟩, fun x hx => by show OkRoad gs.length x; rw [hg]; exact hr x hx, pg, pt⟩
def isAt (rs : List Road) (s h k : Nat) : Bool := match rs[k]? with
  | some x => side s x == some h
  | none => false
theorem filter_atR {rs : List Road} {s h : Nat} : (List.range rs.length).filter (isAt rs s h) = atR rs s h := by
  have e : List.range rs.length = rs.zipIdx.map (·.2) := by
    rw [show (fun (p : Road × Nat) => p.2) = Prod.snd from rfl, List.zipIdx_map_snd, List.range_eq_range']
  unfold atR
  rw [e, List.filter_map]
  congr 1
  apply List.filter_congr
  rintro ⟨x, k⟩ hx
  have hx := List.mem_zipIdx' hx
  obtain ⟨h1, h2⟩ := hx
  have h2 : x = rs[k] := h2
  show isAt rs s h k = _
  unfold isAt
  rw [List.getElem?_eq_getElem h1, ← h2]
theorem atR_len {rs : List Road} {s h : Nat} : (atR rs s h).length ≤ rs.length := by
  unfold atR
  rw [List.length_map]
  exact Nat.le_trans (List.length_filter_le ..) (by simp)
theorem ord_snoc {rs : List Road} {s : Nat} {gs : List (List Nat)} {l : List Nat} (hg : ∀ (h : Nat) (l : List Nat), gs[h]? = some l → l.Perm (atR rs s h)) (hl : l.Perm (atR rs s gs.length)) : ∀ (h : Nat) (l' : List Nat), (gs ++ [l])[h]? = some l' → l'.Perm (atR rs s h) := by
  intro h l' e
  by_cases c : h < gs.length
  · rw [List.getElem?_append_left c] at e
    exact hg h l' e
  · rw [List.getElem?_append_right (by omega)] at e
    have : h - gs.length = 0 := by
      apply Classical.byContradiction
      intro z
      rw [List.getElem?_eq_none (by simp; omega)] at e
      exact nomatch e
    rw [this] at e
    have hh : h = gs.length := by omega
    simp at e
    subst e
    rw [hh]
    exact hl
end Uv

namespace Fn
open PySem PySem.Spec PyProof.Rows L2 Uv
theorem lc_at {rs : List Road} {s h j : Nat} {t : XT} {v : VE} {Q : List PD → Prop} (ht : ∀ (k : Nat) (hk : k < rs.length), t (v.set j (some (natD k))) = some (side s rs[k] == some h)) (hj : ∀ k : Nat, xVar j (v.set j (some (natD k))) = some (natD k)) (hq : Q ((atR rs s h).map natD)) : wp (lcGo (gvName j) t (xVar j) v ((List.range rs.length).map natD)) (tag Q) := by
  refine wp_lc (isAt rs s h) natD (fun k hk => ?_) (by rw [filter_atR]; exact hq)
  have hk : k < rs.length := List.mem_range.mp hk
  have e : isAt rs s h k = (side s rs[k] == some h) := by unfold isAt; rw [List.getElem?_eq_getElem hk]
  rw [e]
  rw [q_gvName, wp_some, ht k hk, wp_some, hj, wp_some]
  exact ⟨rfl, fun _ => rfl⟩
end Fn

namespace Fn
open PySem PySem.Spec PyProof.Rows L2 Uv
def DkA (b : Nat) (cs : List Cel) : Prop := ∃ (gs ns : List Int) (n : Int), cs = [.sub (gs.map PyData.int), .sub (ns.map PyData.int), .dat (.int n)] ∧ gs.length ≤ 63 ∧ ns ≠ [] ∧ ns.length ≤ 64 ∧ 0 ≤ n ∧ n ≤ b
theorem DkA.mono {b c : Nat} {cs : List Cel} (h : DkA b cs) (hb : b ≤ c) : DkA c cs := by
  obtain ⟨gs, ns, n, e, h1, h2, h3, h4, h5⟩ := h
  exact ⟨gs, ns, n, e, h1, h2, h3, h4, by omega⟩
theorem ne_nilIA {l : List Int} : neP (.list (l.map PyData.int)) (.list []) = some (.bool (!l.isEmpty)) := by
  unfold neP
  rw [if_pos ⟨PySem.W.shaped_ints _, rfl⟩]
  cases l <;> rfl
theorem a_next {b : Nat} {cs : List Cel} {m : Int} {Q : PD × List Cel → Prop} (h : DkA b cs) (hb : b ≤ 2 ^ 40) (hm : 0 < m) (hm2 : m < 2 ^ 64) (hq : ∀ (r : Nat) cs', (r : Int) < m → DkA (b + 1) cs' → Q (natD r, cs')) : wp (F__law_next cs [.int m]) (tag Q) := by
  obtain ⟨gs, ns, n, rfl, hg, hn0, hnl, h0, hn⟩ := h
  have dv : Dvr m := ⟨hm, hm2⟩
  have ln : 0 < ns.length := List.length_pos_iff.mpr hn0
  unfold F__law_next
  refine wp_runW rfl ?_
  unfold X__law_next
  simp -implicitDefEqProofs
  refine wp_while (fun k ρ => ∃ (gs : List Int) (z2 z3 z4 : Sl), ρ = [.own [.sub (gs.map PyData.int), .sub (ns.map PyData.int), .dat (.int n)], .dat (.int m), z2, z3, z4] ∧ gs.length = k ∧ gs.length ≤ 63) (k := gs.length) (@fuel_lt kk0 _ (by omega)) ⟨gs, _, _, _, rfl, rfl, hg⟩ ?_
  rintro k ρ ⟨gs, z2, z3, z4, rfl, hk, hg⟩
  simp -implicitDefEqProofs [ne_nilIA]
  refine ⟨fun z => ?_, fun z => ?_⟩
  · subst z
    obtain ⟨j, hj, ej⟩ := emod_nat (a := n + 1) (show (0 : Int) < (ns.length : Int) by omega)
    have hj : j < ns.length := by omega
    refine ⟨ln, ?_⟩
    rw [ej, atI_map hj]
    obtain ⟨t, ht⟩ : ∃ t, t = n + 1 := ⟨_, rfl⟩
    obtain ⟨c, hc⟩ : ∃ c, c = ns[j] % 2147483647 := ⟨_, rfl⟩
    have c64 : In64 c := ⟨by omega, by omega⟩
    have t64 : In64 t := ⟨by omega, by omega⟩
    have e1 : In64 40692 := ⟨by decide, by decide⟩
    have e2 : In64 69621 := ⟨by decide, by decide⟩
    rw [← ht]
    simp -implicitDefEqProofs
    rw [← hc]
    simp -implicitDefEqProofs [c64, t64, e1, e2]
    obtain ⟨x, hx⟩ : ∃ x, x = (c * (48271 + 40692 * t) + 69621 * t * t + 13) % 2147483629 := ⟨_, rfl⟩
    have x64 : In64 x := ⟨by omega, by omega⟩
    rw [← hx]
    simp -implicitDefEqProofs [x64, hm]
    obtain ⟨i, hi, ei⟩ := emod_nat (a := x * x % 2147483587 / 16) hm
    rw [ei]
    exact hq i _ hi ⟨[], ns, t, by simp, by simp, hn0, hnl, by omega, by omega⟩
  · obtain ⟨g, gt, rfl⟩ : ∃ g gt, gs = g :: gt := by
      cases gs with
      | nil => exact absurd rfl z
      | cons g gt => exact ⟨g, gt, rfl⟩
    unfold X__law_next_b1
    have a0 : atI (PyData.int g :: gt.map PyData.int) 0 = some (.int g) := atI_at (k := 0) (by simp)
    have x0 : ixN (gt.length + 1) 0 = some 0 := ixN_nat' (n := gt.length + 1) (k := 0) (by omega)
    simp -implicitDefEqProofs [a0]
    refine wp_altd (fun c => ?_) (fun c => ?_)
    · simp -implicitDefEqProofs [hm, dv, x0]
      obtain ⟨i, hi, ei⟩ := emod_nat (a := g) hm
      rw [ei]
      exact hq i _ hi ⟨g / m :: gt, ns, n, by simp, by simpa using hg, hn0, hnl, h0, by omega⟩
    · simp -implicitDefEqProofs [x0]
      exact ⟨gt.length, by simp at hk; omega, gt, _, _, _, rfl, rfl, by simp at hg; omega⟩
theorem a_one {α : Type} {enc : α → PD} {l : List α} {b : Nat} {cs : List Cel} {Q : PD × List Cel → Prop} (h : DkA b cs) (hb : b ≤ 2 ^ 40) (h0 : l ≠ []) (h1 : l.length ≤ 1000000) (hq : ∀ x ∈ l, ∀ cs', DkA (b + 1) cs' → Q (enc x, cs')) : wp (F__law_one cs [.list (l.map enc)]) (tag Q) := by
  have : 0 < l.length := List.length_pos_iff.mpr h0
  unfold F__law_one
  refine wp_runW rfl ?_
  unfold X__law_one
  simp -implicitDefEqProofs
  refine a_next h hb (by omega) (by omega) fun r cs' hr d => ?_
  have hr : r < l.length := by omega
  simp -implicitDefEqProofs [atI_map hr]
  exact hq _ (List.getElem_mem hr) _ d
theorem a_pick {l : List Int} {b : Nat} {cs : List Cel} {Q : PD × List Cel → Prop} (h : DkA b cs) (hb : b ≤ 2 ^ 40) (h0 : l ≠ []) (h1 : l.length ≤ 1000000) (hq : ∀ x ∈ l, ∀ cs', DkA (b + 1) cs' → Q (.int x, cs')) : wp (F__law_one cs [.list (l.map PyData.int)]) (tag Q) := a_one (enc := PyData.int) h hb h0 h1 hq
theorem a_order {b : Nat} {cs : List Cel} {ns : List Nat} {Q : PD × List Cel → Prop} (h : DkA b cs) (hb : b + ns.length ≤ 2 ^ 40) (hl : ns.length ≤ 1000) (hq : ∀ (es : List Nat) cs', es.Perm ns → DkA (b + ns.length) cs' → Q (natsD es, cs')) : wp (F__law_order cs [.list (ns.map natD)]) (tag Q) := by
  unfold F__law_order
  refine wp_runW rfl ?_
  unfold X__law_order
  simp -implicitDefEqProofs
  refine wp_forM (fun k ρ => ∃ (cs : List Cel) (found : List Nat) (z3 : Sl), ρ = [.own cs, .dat (.list (ns.map natD)), .own (dats (found.map natD)), z3] ∧ found.Perm (ns.take k) ∧ DkA (b + k) cs) ⟨cs, [], _, rfl, by simp, h⟩ ?_ ?_
  · rintro k hk ρ ⟨cs, found, z3, rfl, p, d⟩
    have fl : found.length = k := by rw [p.length_eq, List.length_take]; omega
    unfold X__law_order_b1
    simp -implicitDefEqProofs
    refine a_next d (by omega) (by omega) (by omega) fun r cs' hr d' => ?_
    simp -implicitDefEqProofs
    have hr' : r ≤ found.length := by omega
    refine ⟨⟨by omega, in63e_nat (by omega)⟩, cs', found.take r ++ ns[k] :: found.drop r, .dat (natD ns[k]), ?_, ?_, d'⟩
    · simp [dats]
    · have tk : ns.take (k + 1) = ns.take k ++ [ns[k]] := by rw [List.take_succ, List.getElem?_eq_getElem hk]; rfl
      rw [tk]
      have p1 : (found.take r ++ ns[k] :: found.drop r).Perm (ns[k] :: (found.take r ++ found.drop r)) := List.perm_middle
      rw [List.take_append_drop] at p1
      exact p1.trans ((p.cons _).trans (List.perm_append_singleton _ _).symm)
  · rintro ρ ⟨cs, found, z3, rfl, p, d⟩
    rw [List.take_length] at p
    simp -implicitDefEqProofs
    exact hq found cs p d
theorem a_room {b : Nat} {cs : List Cel} {far : Bool} {Q : PD × List Cel → Prop} (h : DkA b cs) (hb : b + 4 ≤ 2 ^ 40) (hq : ∀ (r : Int) cs', 0 ≤ r → r ≤ 1000000000000 → DkA (b + 4) cs' → Q (.int r, cs')) : wp (F__law_room cs [.bool far]) (tag Q) := by
  unfold F__law_room
  refine wp_runW rfl ?_
  unfold X__law_room
  have e0 : [PyData.int 0, .int 1, .int 1, .int 2, .int 3, .int 5] = ([0, 1, 1, 2, 3, 5] : List Int).map PyData.int := rfl
  simp -implicitDefEqProofs
  rw [e0]
  refine a_pick h (by omega) (by simp) (by simp) fun x hx cs1 d1 => ?_
  have hx : 0 ≤ x ∧ x ≤ 5 := by simp at hx; omega
  simp -implicitDefEqProofs
  refine a_next d1 (by omega) (by omega) (by omega) fun r1 cs2 a1 d2 => ?_
  simp -implicitDefEqProofs
  refine a_next d2 (by omega) (by omega) (by omega) fun r2 cs3 a2 d3 => ?_
  simp -implicitDefEqProofs
  have e1 : [PyData.int 1, .int 2, .int 1000000000000, .int (1000000000000 - (r1 : Int)), natD r2] = ([1, 2, 1000000000000, 1000000000000 - (r1 : Int), (r2 : Int)] : List Int).map PyData.int := rfl
  rw [e1]
  refine a_pick d3 (by omega) (by simp) (by simp) fun y hy cs4 d4 => ?_
  have hy : 0 ≤ y ∧ y ≤ 1000000000000 := by simp at hy; omega
  simp -implicitDefEqProofs
  cases far with
  | true =>
    simp -implicitDefEqProofs [atI]
    exact hq y _ hy.1 hy.2 d4
  | false =>
    simp -implicitDefEqProofs [atI]
    exact hq x _ hx.1 (by omega) d4
def spot (n : Nat) : Option Nat := if n = 0 then none else some (n - 1)
theorem spot_inj {a b : Nat} (h : spot a = spot b) : a = b := by
  unfold spot at h
  by_cases ca : a = 0 <;> by_cases cb : b = 0
  · omega
  · rw [if_pos ca, if_neg cb] at h; exact nomatch h
  · rw [if_neg ca, if_pos cb] at h; exact nomatch h
  · rw [if_neg ca, if_neg cb] at h; have := Option.some.inj h; omega
theorem spot_lt {a n h : Nat} (ha : a < n + 1) (e : spot a = some h) : h < n := by
  unfold spot at e
  by_cases c : a = 0
  · rw [if_pos c] at e; exact nomatch e
  · rw [if_neg c] at e; have := Option.some.inj e; omega
theorem q_spot {a : Nat} : (atI [PyData.none, .int ((a : Int) - 1)] (if 0 < (a : Int) then 1 else 0)) = some (endD (spot a)) := by
  unfold spot
  by_cases c : a = 0
  · subst c; rfl
  · rw [if_neg c, if_pos (by omega)]
    show some (PyData.int ((a : Int) - 1)) = some (natD (a - 1))
    congr 2
    omega
theorem a_road {b n : Nat} {cs : List Cel} {far : Bool} {Q : PD × List Cel → Prop} (h : DkA b cs) (hb : b + 6 ≤ 2 ^ 40) (n1 : 1 ≤ n) (n8 : n ≤ 8) (hq : ∀ (x : Road) cs', OkRoad n x → DkA (b + 6) cs' → Q (roadD x, cs')) : wp (F__law_road cs [natD n, .bool far]) (tag Q) := by
  unfold F__law_road
  refine wp_runW rfl ?_
  unfold X__law_road
  simp -implicitDefEqProofs
  refine a_next h (by omega) (by omega) (by omega) fun r1 cs1 a1 d1 => ?_
  simp -implicitDefEqProofs
  refine a_next d1 (by omega) (by omega) (by omega) fun r2 cs2 a2 d2 => ?_
  obtain ⟨r3, hr3, e3⟩ := emod_nat (a := (r1 : Int) + 1 + (r2 : Int)) (show (0 : Int) < (n : Int) + 1 by omega)
  have ne : r1 ≠ r3 := by
    intro z
    subst z
    have e4 : ((r1 : Int) + 1 + r2) % (n + 1) = r1 := e3
    clear e3
    have : n = 1 ∨ n = 2 ∨ n = 3 ∨ n = 4 ∨ n = 5 ∨ n = 6 ∨ n = 7 ∨ n = 8 := by omega
    rcases this with rfl | rfl | rfl | rfl | rfl | rfl | rfl | rfl <;> omega
  simp -implicitDefEqProofs [e3]
  have e5 : [natD r1, PyData.int (r3 : Int)] = [r1, r3].map natD := rfl
  rw [e5]
  refine wp_lcT (fun k => endD (spot k)) (fun k hk => ?_) ?_
  · have q := q_spot (a := k)
    have ei : (if 0 < (k : Int) then (1 : Int) else 0) = if 0 < k then 1 else 0 := by
      by_cases c : 0 < k
      · rw [if_pos c, if_pos (by omega)]
      · rw [if_neg c, if_neg (by omega)]
    rw [ei] at q
    simp -implicitDefEqProofs [q]
  simp -implicitDefEqProofs
  refine a_room d2 (by omega) fun r cs3 r0 r1' d3 => ?_
  simp -implicitDefEqProofs
  exact hq ⟨spot r1, spot r3, r⟩ cs3 ⟨fun z => ne (spot_inj z), fun h e => spot_lt (by omega) e, fun h e => spot_lt (by omega) e, r0, r1'⟩ (d3.mono (by omega))
theorem a_deck {ns : List Int} {Q : List Cel → Prop} (h : ns.length ≤ 63) (hq : ∀ cs, DkA 0 cs → Q cs) : wp (F__law_deck_h [scrD (ns.map PyData.int)]) (tag Q) := by
  unfold F__law_deck_h
  refine wp_runD rfl ?_
  unfold X__law_deck_h
  simp -implicitDefEqProofs
  refine ⟨by omega, wp_lcT (fun i => .int (if i < 0 then -i else i)) (fun i hi => by simp -implicitDefEqProofs) ?_⟩
  have e : ns.map (fun i => PyData.int (if i < 0 then -i else i)) = (ns.map fun i => if i < 0 then -i else i).map PyData.int := by rw [List.map_map]; rfl
  rw [e]
  obtain ⟨ms, hms⟩ : ∃ ms, ms = ns.map fun (i : Int) => if i < 0 then -i else i := ⟨_, rfl⟩
  have ml : ms.length ≤ 63 := by rw [hms, List.length_map]; exact h
  rw [← hms]
  simp -implicitDefEqProofs
  refine ⟨by omega, wp_lc (fun i => decide ((1000000000000000000 : Int) ≤ i)) PyData.int (fun i hi => by simp -implicitDefEqProofs) ?_⟩
  simp -implicitDefEqProofs
  refine ⟨by omega, hq _ ⟨ms.filter fun i => decide ((1000000000000000000 : Int) ≤ i), ms ++ [(ms.length : Int) + 5], 0, by simp, ?_, by simp, by simp; omega, by omega, by omega⟩⟩
  exact Nat.le_trans (List.length_filter_le ..) ml
theorem a_web {b most many : Nat} {cs : List Cel} {far : Bool} {Q : PD × List Cel → Prop} (h : DkA b cs) (hb : b + 1000 ≤ 2 ^ 40) (m1 : 1 ≤ most) (m2 : most ≤ 8) (k1 : 1 ≤ many) (k2 : many ≤ 20) (hq : ∀ W cs', IsWeb W → DkA (b + 1000) cs' → Q (webD W, cs')) : wp (F__law_web cs [natD most, natD many, .bool far]) (tag Q) := by
  unfold F__law_web
  refine wp_runW rfl ?_
  unfold X__law_web
  simp -implicitDefEqProofs
  refine a_next h (by omega) (by omega) (by omega) fun r1 cs1 a1 d1 => ?_
  simp -implicitDefEqProofs
  refine a_next d1 (by omega) (by omega) (by omega) fun r2 cs2 a2 d2 => ?_
  obtain ⟨n, hn⟩ : ∃ n : Nat, n = 1 + r1 := ⟨_, rfl⟩
  obtain ⟨k, hk⟩ : ∃ k : Nat, k = 1 + r2 := ⟨_, rfl⟩
  have en : (1 : Int) + (r1 : Int) = (n : Int) := by omega
  have ek : (1 : Int) + (r2 : Int) = (k : Int) := by omega
  rw [en]
  simp -implicitDefEqProofs [ek]
  refine ⟨in62_nat (by omega), by omega, ?_⟩
  have em : ∀ {ds : List PD}, PyData.list ds = .list ds := rfl
  refine wp_wl (fun i ds ρ => ∃ (rs : List Road) (cs : List Cel) (z : Sl), ds = rs.map roadD ∧ rs.length = i ∧ (∀ x ∈ rs, OkRoad n x) ∧ ρ = [.own cs, .dat (natD most), .dat (natD many), .dat (.bool far), .dat (natD n), .un, .un, .un, .un, .un, z] ∧ DkA (b + 2 + 6 * i) cs) ⟨[], cs2, _, rfl, rfl, by simp, rfl, d2⟩ ?_ ?_
  · rintro i hi ds ρ ⟨rs, cs, z, rfl, hl, ho, rfl, d⟩
    have hi : i < k := by simpa using hi
    simp -implicitDefEqProofs
    refine a_road d (by omega) (by omega) (by omega) fun x cs' ok d' => ?_
    simp -implicitDefEqProofs
    refine ⟨rs ++ [x], cs', _, by simp, by simp [hl], fun y hy => ?_, rfl, d'.mono (by omega)⟩
    rcases List.mem_append.mp hy with h | h
    · exact ho y h
    · rw [List.mem_singleton.mp h]; exact ok
  rintro ds ρ ⟨rs, cs3, z, rfl, hl, ho, rfl, d3⟩
  have hl : rs.length = k := by simpa using hl
  have d3 : DkA (b + 2 + 6 * k) cs3 := by simpa using d3
  simp -implicitDefEqProofs
  refine wp_for (fun s ρ => ∃ (cs : List Cel) (oss : List (List (List Nat))) (z7 z8 z9 z10 : Sl), ρ = [.own cs, .dat (natD most), .dat (natD many), .dat (.bool far), .dat (natD n), .dat (.list (rs.map roadD)), .own (dats (oss.map fun os => .tuple (os.map natsD))), z7, z8, z9, z10] ∧ oss.length = s ∧ (∀ (j : Nat) (os : List (List Nat)), oss[j]? = some os → os.length = n ∧ ∀ (h : Nat) (l : List Nat), os[h]? = some l → l.Perm (atR rs j h)) ∧ DkA (b + 2 + 6 * k + 200 * s) cs) ⟨cs3, [], _, _, _, _, rfl, rfl, by simp, d3⟩ ?_ ?_
  · rintro s hs ρ ⟨cs, oss, z7, z8, z9, z10, rfl, ol, oo, d⟩
    have hs : s < 2 := by simpa using hs
    have es : ([PyData.int 0, .int 1] : List PD)[s] = natD s := by
      have : s = 0 ∨ s = 1 := by omega
      rcases this with rfl | rfl <;> rfl
    rw [es]
    unfold X__law_web_b2
    simp -implicitDefEqProofs
    refine ⟨in62_nat (by omega), ?_⟩
    refine wp_forR (fun h ρ => ∃ (cs : List Cel) (os : List (List Nat)) (z9 z10 : Sl), ρ = [.own cs, .dat (natD most), .dat (natD many), .dat (.bool far), .dat (natD n), .dat (.list (rs.map roadD)), .own (dats (oss.map fun os => .tuple (os.map natsD))), .dat (natD s), .own (dats (os.map natsD)), z9, z10] ∧ os.length = h ∧ (∀ (h : Nat) (l : List Nat), os[h]? = some l → l.Perm (atR rs s h)) ∧ DkA (b + 2 + 6 * k + 200 * s + 20 * h) cs) ⟨cs, [], _, _, rfl, rfl, by simp, d⟩ ?_ ?_
    · rintro h hh ρ ⟨cs, os, z9, z10, rfl, hol, hoo, d⟩
      have ll := atR_len (rs := rs) (s := s) (h := h)
      unfold X__law_web_b1
      simp -implicitDefEqProofs
      refine ⟨in62_nat (by omega), by omega, lc_at (s := s) (h := h) (fun k hk => ?_) (fun k => rfl) ?_⟩
      · have sd : atI [endD rs[k].b, endD rs[k].e, .int rs[k].r] (s : Int) = some (endD (side s rs[k])) := by
          have : s = 0 ∨ s = 1 := by omega
          rcases this with rfl | rfl <;> rfl
        simp -implicitDefEqProofs [atI_map hk, roadD, sd, eq_end]
      simp -implicitDefEqProofs
      refine a_order d (by omega) (by omega) fun es cs' p d' => ?_
      simp -implicitDefEqProofs
      refine ⟨by omega, cs', os ++ [es], _, _, by rw [List.map_append]; rfl, by simp; omega, ord_snoc hoo (by rw [hol]; exact p), d'.mono (by omega)⟩
    · rintro ρ ⟨cs, os, z9, z10, rfl, hol, hoo, d⟩
      simp -implicitDefEqProofs
      refine ⟨by omega, cs, oss ++ [os], _, _, _, _, by rw [List.map_append]; rfl, by simp; omega, fun j os' e => ?_, d.mono (by omega)⟩
      by_cases c : j < oss.length
      · rw [List.getElem?_append_left c] at e
        exact oo j os' e
      · rw [List.getElem?_append_right (by omega)] at e
        have : j - oss.length = 0 := by
          apply Classical.byContradiction
          intro z
          rw [List.getElem?_eq_none (by simp; omega)] at e
          exact nomatch e
        rw [this] at e
        simp at e
        subst e
        have : j = s := by omega
        subst this
        exact ⟨hol, hoo⟩
  · rintro ρ ⟨cs, oss, z7, z8, z9, z10, rfl, ol, oo, d⟩
    have ol : oss.length = 2 := by simpa using ol
    obtain ⟨gs, ts, rfl⟩ : ∃ gs ts, oss = [gs, ts] := by
      match oss, ol with
      | [gs, ts], _ => exact ⟨gs, ts, rfl⟩
    obtain ⟨g1, g2⟩ := oo 0 gs rfl
    obtain ⟨t1, t2⟩ := oo 1 ts rfl
    simp -implicitDefEqProofs [atI]
    have d : DkA (b + 2 + 6 * k + 200 * 2) cs := by simpa using d
    exact hq ⟨rs, gs, ts⟩ cs (mkWeb (m := n) (by omega) (by omega) (by omega) (by omega) ho g1 t1 g2 t2) (d.mono (by omega))
end Fn

namespace Fn
open PySem PySem.Spec PyProof.Rows L2 Uv
end Fn

namespace Fn
open PySem PySem.Spec PyProof.Rows L2 Uv
@[simp] theorem p_is_number {i : Int} : F_is_number [.int i] = some (.bool true) := by
  unfold F_is_number
  refine eq_of_wp (wp_runP rfl ?_)
  unfold X_is_number
  simp -implicitDefEqProofs
@[simp] theorem p_is_number_to {i m : Int} : F_is_number_to [.int i, .int m] = some (.bool (decide (0 ≤ i) && decide (i ≤ m))) := by
  unfold F_is_number_to
  refine eq_of_wp (wp_runP rfl ?_)
  unfold X_is_number_to
  simp -implicitDefEqProofs
@[simp] theorem p_is_tuple_of {ds : List PD} {a b : Int} : F_is_tuple_of [.tuple ds, .int a, .int b] = some (.bool (decide (a ≤ ds.length) && decide ((ds.length : Int) ≤ b))) := by
  unfold F_is_tuple_of
  refine eq_of_wp (wp_runP rfl ?_)
  unfold X_is_tuple_of
  simp -implicitDefEqProofs
end Fn

namespace Fn
open PySem PySem.Spec PyProof.Rows L2 Uv
end Fn

namespace Fn
open PySem PySem.Spec PyProof.Rows L2 Uv
end Fn

namespace Fn
open PySem PySem.Spec PyProof.Rows L2 Uv
end Fn

namespace Calm
def sm (l : List Nat) (g : Nat → Int) : Int := (l.map g).sum
theorem sm_cons {x : Nat} {l : List Nat} {g : Nat → Int} : sm (x :: l) g = g x + sm l g := by simp [sm]
theorem sm_same {l : List Nat} {g g' : Nat → Int} (h : ∀ j ∈ l, g' j = g j) : sm l g' = sm l g := by
  unfold sm
  rw [List.map_congr_left h]
theorem sm_le {l : List Nat} {g g' : Nat → Int} (h : ∀ j ∈ l, g j ≤ g' j) : sm l g ≤ sm l g' := by
  induction l with
  | nil => exact Int.le_refl _
  | cons x xs ih =>
    have h1 := h x (List.mem_cons_self ..)
    have h2 := ih fun j hj => h j (List.mem_cons_of_mem _ hj)
    rw [sm_cons, sm_cons]
    omega
theorem sm_nn {l : List Nat} {g : Nat → Int} (h : ∀ j ∈ l, 0 ≤ g j) : 0 ≤ sm l g := by
  have := sm_le (g := fun _ => 0) h
  have e : ∀ l : List Nat, sm l (fun _ => 0) = 0 := fun l => by
    induction l with
    | nil => rfl
    | cons x xs ih => rw [sm_cons, ih]; rfl
  rw [e] at this
  exact this
structure Net where
  n : Nat
  hs : Nat
  b : Nat → Option Nat
  e : Nat → Option Nat
  r : Nat → Int
  g : Nat → List Nat
  t : Nat → List Nat
structure Net.Ok (N : Net) : Prop where
  ne : ∀ k, k < N.n → N.b k ≠ N.e k
  r0 : ∀ k, 0 ≤ N.r k
  gm : ∀ h k, k ∈ N.g h ↔ k < N.n ∧ N.b k = some h
  tm : ∀ h k, k ∈ N.t h ↔ k < N.n ∧ N.e k = some h
  gn : ∀ h, (N.g h).Nodup
  tn : ∀ h, (N.t h).Nodup
  bh : ∀ k h, k < N.n → N.b k = some h → h < N.hs
  eh : ∀ k h, k < N.n → N.e k = some h → h < N.hs
variable {N : Net}
def outs (N : Net) (D R : Nat → Int) (h : Nat) : Int := sm (N.g h) fun k => D k - R k
def ins (N : Net) (D R : Nat → Int) (h : Nat) : Int := sm (N.t h) fun k => D k - R k
def worse (N : Net) (D R : Nat → Int) (h k : Nat) : Int := sm (N.t h) fun j => if (N.t h).idxOf k < (N.t h).idxOf j then D j - R j else 0
structure St (N : Net) (D R : Nat → Int) : Prop where
  i1 : ∀ k, 0 ≤ R k ∧ R k ≤ D k ∧ D k ≤ N.r k
  i2 : ∀ k, N.b k = none → D k = N.r k
  i3 : ∀ h k j, k ∈ N.g h → j ∈ N.g h → (N.g h).idxOf k < (N.g h).idxOf j → 0 < D j → D k = N.r k
  i4 : ∀ k, N.e k = none → R k = 0
  i5 : ∀ h, outs N D R h ≤ ins N D R h
  i6 : ∀ h k, k ∈ N.t h → 0 < R k → (∀ j ∈ N.g h, D j = N.r j) ∧ worse N D R h k ≤ ins N D R h - outs N D R h
def up (D : Nat → Int) (k : Nat) : Nat → Int := fun j => if j = k then D j + 1 else D j
theorem start (ok : N.Ok) : St N (fun k => if N.b k = none then N.r k else 0) fun _ => 0 := by
  refine ⟨fun k => ?_, fun k hk => if_pos hk, fun h k j hk hj hij hD => ?_, fun _ _ => rfl, fun h => ?_, fun h k hk hR => by omega⟩
  · have := ok.r0 k
    split <;> omega
  · have : N.b j ≠ none := fun z => by rw [((ok.gm h j).mp hj).2] at z; exact nomatch z
    rw [if_neg this] at hD
    omega
  · have e : outs N (fun k => if N.b k = none then N.r k else 0) (fun _ => 0) h = sm (N.g h) fun _ => 0 := sm_same fun j hj => by
      have : N.b j ≠ none := fun z => by rw [((ok.gm h j).mp hj).2] at z; exact nomatch z
      show (if N.b j = none then N.r j else 0) - 0 = 0
      rw [if_neg this]; rfl
    have z : sm (N.g h) (fun _ => 0) ≤ sm (N.g h) (fun _ => 0) := Int.le_refl _
    have e0 : ∀ l : List Nat, sm l (fun _ => 0) = 0 := fun l => by
      induction l with
      | nil => rfl
      | cons x xs ih => rw [sm_cons, ih]; rfl
    rw [e, e0]
    exact sm_nn fun j _ => by
      have := ok.r0 j
      show 0 ≤ (if N.b j = none then N.r j else 0) - 0
      split <;> omega
end Calm

namespace Uv
open PySem PySem.Spec PyProof.Rows L2
theorem eqv_nat {a b : Nat} : PyData.eqv (natD a) (natD b) = (a == b) := by
  show ((a : Int) == (b : Int)) = _
  exact Bool.eq_iff_iff.mpr (by simp; omega)
theorem lay_end {k : Nat} {o : Option Nat} : Lay k (endD o) := by cases o; exact Lay.non; exact Lay.int
def rd (W : Web) (k : Nat) : Road := W.roads.getD k ⟨none, none, 0⟩
def giv (W : Web) (h : Nat) : List Nat := W.gives.getD h []
def tak (W : Web) (h : Nat) : List Nat := W.takes.getD h []
def at0 (f : List Int) (k : Nat) : Int := f.getD k 0
def lessB (f : List Int) (o : List Nat) (k : Nat) : Bool := (o.drop (o.idxOf k + 1)).any fun j => decide (0 < at0 f j)
def pushB (W : Web) (f : List Int) (lot : List Nat) (k : Nat) : Bool := match (rd W k).b with
  | none => true
  | some h => lot.contains h || lessB f (giv W h) k
def pullB (W : Web) (f : List Int) (lot : List Nat) (k : Nat) : Bool := match (rd W k).e with
  | none => true
  | some h => !lot.contains h || lessB f (tak W h) k
def openB (W : Web) (f : List Int) (k : Nat) : Bool := decide (at0 f k < (rd W k).r)
def calmB (W : Web) (f : List Int) (lot : List Nat) : Bool := (List.range W.roads.length).all fun k => !(openB W f k && pushB W f lot k && pullB W f lot k)
structure Bears (W : Web) (f : List Int) : Prop where
  len : f.length = W.roads.length
  nn : ∀ x ∈ f, 0 ≤ x
structure IsLot (n : Nat) (l : List Nat) : Prop where
  up : l.Pairwise (· < ·)
  lt : ∀ x ∈ l, x < n
section
variable {W : Web} {f : List Int}
end
end Uv

namespace Fn
open PySem PySem.Spec PyProof.Rows L2 Uv
section
variable {W : Web} {f : List Int} {lot : List Nat}
end
end Fn

namespace Fn
open PySem PySem.Spec PyProof.Rows L2 Uv
section
variable {W : Web} {f : List Int} {lot : List Nat}
end
end Fn

namespace Fn
open PySem PySem.Spec PyProof.Rows L2 Uv
section
variable {W : Web} {f : List Int} {lot : List Nat}
end
end Fn

namespace Fn
open PySem PySem.Spec PyProof.Rows L2 Uv
section
variable {W : Web} {f : List Int} {lot : List Nat}
def evenB (W : Web) (f : List Int) : Bool := (List.range W.gives.length).all fun h => decide (((giv W h).map (at0 f)).sum = ((tak W h).map (at0 f)).sum)
end
end Fn

namespace Fn
open PySem PySem.Spec PyProof.Rows L2 Uv
section
variable {W : Web} {f : List Int} {lot : List Nat}
end
end Fn

namespace Calm
theorem sm_add {l : List Nat} {g g' : Nat → Int} : sm l (fun k => g k + g' k) = sm l g + sm l g' := by
  induction l with
  | nil => rfl
  | cons x xs ih => rw [sm_cons, sm_cons, sm_cons, ih]; omega
theorem sm_nul {l : List Nat} {g : Nat → Int} (h : ∀ k ∈ l, g k = 0) : sm l g = 0 := by
  induction l with
  | nil => rfl
  | cons x xs ih =>
    rw [sm_cons, h x (List.mem_cons_self ..), ih fun k hk => h k (List.mem_cons_of_mem _ hk)]; rfl
theorem sm_perm {l m : List Nat} {g : Nat → Int} (p : l.Perm m) : sm l g = sm m g := by
  induction p with
  | nil => rfl
  | cons x _ ih => rw [sm_cons, sm_cons, ih]
  | swap x y l => rw [sm_cons, sm_cons, sm_cons, sm_cons]; omega
  | trans _ _ h1 h2 => rw [h1, h2]
theorem sm_swap {l m : List Nat} {G : Nat → Nat → Int} : sm l (fun h => sm m fun k => G h k) = sm m fun k => sm l fun h => G h k := by
  induction l with
  | nil => exact (sm_nul fun _ _ => rfl).symm
  | cons x xs ih => rw [sm_cons, ih, ← sm_add]; rfl
theorem sm_single {l : List Nat} {g : Nat → Int} {a : Nat} (nd : l.Nodup) (ha : a ∈ l) (h : ∀ k ∈ l, k ≠ a → g k = 0) : sm l g = g a := by
  induction l with
  | nil => exact nomatch ha
  | cons x xs ih =>
    obtain ⟨n1, n2⟩ := List.nodup_cons.mp nd
    rw [sm_cons]
    by_cases e : x = a
    · subst e
      rw [sm_nul fun k hk => h k (List.mem_cons_of_mem _ hk) fun z => n1 (z ▸ hk)]
      omega
    · rw [h x (List.mem_cons_self ..) e, ih n2 ((List.mem_cons.mp ha).resolve_left fun z => e z.symm) fun k hk => h k (List.mem_cons_of_mem _ hk)]
      omega
theorem sm_filter {l : List Nat} {p : Nat → Bool} {g : Nat → Int} : sm (l.filter p) g = sm l fun k => if p k = true then g k else 0 := by
  induction l with
  | nil => rfl
  | cons x xs ih =>
    rw [List.filter_cons, sm_cons]
    by_cases c : p x = true
    · rw [if_pos c, if_pos c, sm_cons, ih]
    · rw [if_neg c, if_neg c, ih]; omega
variable {N : Net}
open Classical in
/-- a sum over the roads of one side, house by house -/
theorem sides {n hs : Nat} {b : Nat → Option Nat} {l : Nat → List Nat} (lm : ∀ h k, k ∈ l h ↔ k < n ∧ b k = some h) (ln : ∀ h, (l h).Nodup) (bh : ∀ k h, k < n → b k = some h → h < hs) (P : Nat → Prop) (Q : Nat → Prop) (hQ : ∀ k, Q k ↔ ∃ h, b k = some h ∧ P h) (F : Nat → Int) :
    sm (List.range n) (fun k => if Q k then F k else 0) = sm (List.range hs) (fun h => if P h then sm (l h) F else 0) := by
  have e1 : ∀ h, sm (l h) F = sm (List.range n) (fun k => if b k = some h then F k else 0) := fun h => by
    have p : (l h).Perm ((List.range n).filter fun k => decide (b k = some h)) := (List.perm_ext_iff_of_nodup (ln h) (List.nodup_range.filter _)).mpr fun k => by
      rw [lm, List.mem_filter, List.mem_range, decide_eq_true_iff]
    rw [sm_perm p, sm_filter]
    exact sm_same fun k _ => by simp
  have e2 : sm (List.range hs) (fun h => if P h then sm (l h) F else 0) = sm (List.range hs) (fun h => sm (List.range n) fun k => if P h ∧ b k = some h then F k else 0) := sm_same fun h _ => by
    by_cases c : P h
    · rw [if_pos c, e1]
      exact sm_same fun k _ => by simp [c]
    · rw [if_neg c]
      exact (sm_nul fun k _ => by simp [c]).symm
  rw [e2, sm_swap]
  apply sm_same
  intro k hk
  have hk := List.mem_range.mp hk
  cases hb : b k with
  | none =>
    rw [if_neg (by rw [hQ]; rintro ⟨h, e, _⟩; rw [hb] at e; exact nomatch e)]
    exact (sm_nul fun h _ => by simp).symm
  | some h0 =>
    rw [sm_single List.nodup_range (List.mem_range.mpr (bh k h0 hk hb)) (fun h _ hne => if_neg fun z => hne (Option.some.inj z.2).symm)]
    by_cases c : P h0
    · rw [if_pos ((hQ k).mpr ⟨h0, hb, c⟩), if_pos ⟨c, rfl⟩]
    · rw [if_neg (by rw [hQ]; rintro ⟨h, e, ph⟩; rw [hb] at e; exact c (Option.some.inj e ▸ ph)), if_neg fun z => c z.1]
def thr (N : Net) (f : Nat → Int) (h : Nat) : Int := sm (N.g h) f
def Up (N : Net) (f : Nat → Int) (S : Nat → Prop) (g : Nat → Int) (T : Nat → Prop) (h : Nat) : Prop :=
  (∃ k ∈ N.g h, g k < f k ∧ ¬ T h ∧ ∀ j ∈ N.g h, (N.g h).idxOf k < (N.g h).idxOf j → g j = 0) ∨ (S h ∧ (¬ T h ∨ thr N f h < thr N g h))
def UU (N : Net) (f : Nat → Int) (S : Nat → Prop) (g : Nat → Int) (T : Nat → Prop) (k : Nat) : Prop := ∃ h, N.b k = some h ∧ Up N f S g T h
section
variable {f g : Nat → Int} {S T : Nat → Prop}
end
end Calm

namespace Calm
def lx : List Int → List Int → Bool
  | [], [] => false
  | [], _ :: _ => true
  | _ :: _, [] => false
  | a :: l, b :: m => if a = b then lx l m else decide (a < b)
variable {N : Net} {f g : Nat → Int} {S T : Nat → Prop}
open Classical in
/-- what a house goes by when it likes one of two pairs -/
noncomputable def key (N : Net) (f : Nat → Int) (S : Nat → Prop) (h : Nat) : List Int := if S h then 0 :: 0 :: (N.g h).map f else 1 :: -(sm (N.t h) f) :: (N.g h).map f
open Classical in
noncomputable def jn (N : Net) (f : Nat → Int) (S : Nat → Prop) (g : Nat → Int) (T : Nat → Prop) (k : Nat) : Int := if UU N f S g T k then g k else f k
end Calm

namespace Fn
open PySem PySem.Spec PyProof.Rows L2 Uv
structure Pr (W : Web) (p : List Int × List Nat) : Prop where
  be : Bears W p.1
  hi : ∀ k, at0 p.1 k ≤ (rd W k).r
  ev : evenB W p.1 = true
  ca : calmB W p.1 p.2 = true
  lo : IsLot W.gives.length p.2
section
variable {W : Web} {p q : List Int × List Nat} {h : Nat}
def keyL (W : Web) (p : List Int × List Nat) (h : Nat) : List Int := if p.2.contains h = true then 0 :: 0 :: (giv W h).map (at0 p.1) else 1 :: -((tak W h).map (at0 p.1)).sum :: (giv W h).map (at0 p.1)
def cmpK (W : Web) (h : Nat) (p q : List Int × List Nat) : Int := if keyL W p h = keyL W q h then 0 else if Calm.lx (keyL W q h) (keyL W p h) = true then 1 else -1
end
end Fn

namespace Fn
open PySem PySem.Spec PyProof.Rows L2 Uv
section
variable {W : Web} {p q : List Int × List Nat} {h : Nat}
end
end Fn

namespace Fn
open PySem PySem.Spec PyProof.Rows L2 Uv
section
variable {W : Web} {p q : List Int × List Nat} {h : Nat}
structure Sz (W : Web) (p : List Int × List Nat) : Prop where
  len : p.1.length = W.roads.length
  lo : IsLot W.gives.length p.2
def joinS (W : Web) (p q : List Int × List Nat) (k : Nat) : Int := match (rd W k).b with
  | none => at0 p.1 k
  | some h => if cmpK W h p q < 0 then at0 q.1 k else at0 p.1 k
def joinL (W : Web) (p q : List Int × List Nat) : List Int × List Nat := ((List.range W.roads.length).map (joinS W p q), p.2.filter fun h => q.2.contains h)
def mn (a b : List Int) : List Int := if Calm.lx a b = true then a else b
end
end Fn

namespace Uv
open PySem PySem.Spec PyProof.Rows L2
theorem eqv_end {a b : Option Nat} : PyData.eqv (endD a) (endD b) = (a == b) := by
  cases a with
  | none => cases b <;> rfl
  | some x =>
    cases b with
    | none => rfl
    | some y =>
      show PyData.eqv (natD x) (natD y) = _
      rw [eqv_nat]
      exact Bool.eq_iff_iff.mpr (by simp)
theorem any_endL {os : List (Option Nat)} {o : Option Nat} : ((os.map endD).any fun z => PyData.eqv z (endD o)) = os.contains o := by
  induction os with
  | nil => rfl
  | cons x xs ih =>
    rw [List.map_cons, List.any_cons, ih, List.contains_cons, eqv_end]
    congr 1
    exact Bool.eq_iff_iff.mpr (by simp; exact eq_comm)
theorem in_endL {os : List (Option Nat)} {o : Option Nat} : inP (endD o) (.list (os.map endD)) = some (.bool (os.contains o)) := by
  unfold inP
  rw [if_pos ⟨lay_end.sh, (Lay.lst (k := 59) (Lay.map fun _ => lay_end)).sh⟩]
  show some (PyData.bool _) = _
  rw [any_endL]
end Uv
namespace Fn
open PySem PySem.Spec PyProof.Rows L2 Uv
section
variable {W : Web} {R : List Nat} {f : List Int}
def begs (W : Web) (R : List Nat) : List (Option Nat) := R.map fun k => (rd W k).b
def ends (W : Web) (R : List Nat) : List (Option Nat) := R.map fun k => (rd W k).e
structure RowOk (W : Web) (R : List Nat) : Prop where
  lt : ∀ k ∈ R, k < W.roads.length
  nd : R.Nodup
  bal : (begs W R).Perm (ends W R)
def ind (R : List Nat) (c : Int) (k : Nat) : Int := if k ∈ R then c else 0
def cnt (o : Option Nat) (c : Int) (l : List (Option Nat)) : Int := (l.map fun x => if x = o then c else 0).sum
structure Chn (W : Web) (R : List Nat) (z : Option Nat) : Prop where
  ne : R ≠ []
  lt : ∀ k ∈ R, k < W.roads.length
  nd : (begs W R).Nodup
  ch : ends W R = (begs W R).tail ++ [z]
end
end Fn

namespace Fn
open PySem PySem.Spec PyProof.Rows L2 Uv
section
variable {W : Web} {R : List Nat} {f : List Int}
theorem at_last {α β : Type} {g : α → β} {l : List α} {x : α} : atI ((l ++ [x]).map g) (-1) = some (g x) := by
  have e0 : (l ++ [x]).map g = l.map g ++ [g x] := by rw [List.map_append]; rfl
  rw [e0]
  have i1 : ixN (l.map g ++ [g x]).length (-1) = some l.length := by
    unfold ixN
    simp
    omega
  unfold atI
  rw [i1]
  simp
theorem cut_nat {ds : List PD} {k : Nat} : Uv.cutD ds (some (k : Int)) none = ds.drop k := by
  unfold Uv.cutD
  rw [HT.sIx_nat, HT.sIx_none]
  by_cases c : k ≤ ds.length
  · rw [Nat.min_eq_left c, List.take_of_length_le (by simp)]
  · rw [Nat.min_eq_right (by omega), List.drop_eq_nil_of_le (Nat.le_refl _), List.drop_eq_nil_of_le (by omega)]
    simp
structure Stm (W : Web) (f : List Int) : Prop where
  be : Bears W f
  hi : ∀ k, at0 f k ≤ (rd W k).r
  ev : ∀ h, h < W.gives.length → Calm.sm (giv W h) (at0 f) = Calm.sm (tak W h) (at0 f)
end
end Fn

namespace Fn
open PySem PySem.Spec PyProof.Rows L2 Uv
section
variable {W : Web} {R : List Nat} {f : List Int}
end
end Fn

namespace Fn
open PySem PySem.Spec PyProof.Rows L2 Uv
section
variable {W : Web} {R : List Nat} {f : List Int}
theorem cut_take {ds : List PD} {k : Nat} : Uv.cutD ds none (some (k : Int)) = ds.take k := by
  unfold Uv.cutD
  rw [HT.sIx_nat, HT.sIx_none]
  by_cases c : k ≤ ds.length
  · rw [Nat.min_eq_left c]; simp
  · rw [Nat.min_eq_right (by omega)]
    have : ds.take k = ds := List.take_of_length_le (by omega)
    rw [this]
    simp
structure Bun (W : Web) (R : List Nat) : Prop where
  ok : RowOk W R
  ne : R ≠ []
  inn : cnt none 1 (begs W R) = if (rd W (R.headD 0)).b = none then 1 else 0
end
end Fn

namespace Fn
open PySem PySem.Spec PyProof.Rows L2 Uv
section
variable {W : Web} {R : List Nat} {f g : List Int}
def tot (rows : List (List Nat × Int)) (k : Nat) : Int := (rows.map fun p => ind p.1 p.2 k).sum
end
end Fn

namespace Fn
open PySem PySem.Spec PyProof.Rows L2 Uv
section
variable {W : Web} {R : List Nat} {f g : List Int}
structure WayR (W : Web) (R : List Nat) : Prop where
  ne : R ≠ []
  lt : ∀ k ∈ R, k < W.roads.length
  nd : (begs W R).Nodup
  tn : none ∉ (begs W R).tail
  ch : ends W R = (begs W R).tail ++ [(rd W (R.headD 0)).b]
  mn : (rd W (R.headD 0)).b ≠ none → ∀ k ∈ R, R.headD 0 ≤ k
end
end Fn

namespace Fn
open PySem PySem.Spec PyProof.Rows L2 Uv
section
variable {W : Web} {R : List Nat} {f : List Int}
end
end Fn

namespace Fn
open PySem PySem.Spec PyProof.Rows L2 Uv
section
variable {W : Web} {R : List Nat} {f g : List Int}
structure Bdl (W : Web) (f : List Int) (rows : List (List Nat × Int)) : Prop where
  len : rows.length ≤ W.roads.length
  row : ∀ p ∈ rows, WayR W p.1 ∧ 1 ≤ p.2
  nd : (rows.map (·.1)).Nodup
  tot : ∀ k, Fn.tot rows k = at0 f k
end
end Fn

namespace Fn
open PySem PySem.Spec PyProof.Rows L2 Uv
section
variable {W : Web} {R : List Nat} {f g : List Int}
end
end Fn

namespace Fn
open PySem PySem.Spec PyProof.Rows L2 Uv
section
variable {W : Web} {f : List Int}
variable {qs : List (List Nat × Int)}
end
end Fn

namespace Fn
open PySem PySem.Spec PyProof.Rows L2 Uv
section
variable {W : Web} {R : List Nat} {f g : List Int}
end
end Fn

namespace Uv
variable {ρ : Env}
end Uv
namespace Fn
open PySem PySem.Spec PyProof.Rows L2 Uv
end Fn

namespace Fn
open PySem PySem.Spec PyProof.Rows L2 Uv
end Fn

namespace Fn
open PySem PySem.Spec PyProof.Rows L2 Uv
section
variable {W : Web} {f : List Int}
end
end Fn

namespace Fn
open PySem PySem.Spec PyProof.Rows L2 Uv
section
variable {W : Web} {f : List Int}
def fstB (W : Web) (f : List Int) (k : Nat) : Bool := match (rd W k).b with
  | none => true
  | some h => lessB f (giv W h) k
def lstB (W : Web) (f : List Int) (k : Nat) : Bool := match (rd W k).e with
  | none => true
  | some h => lessB f (tak W h) k
end
end Fn

namespace Fn
open PySem PySem.Spec PyProof.Rows L2 Uv
section
variable {W : Web} {f : List Int} {lot : List Nat}
structure Least (W : Web) (f : List Int) (L : List Nat) : Prop where
  lot : IsLot W.gives.length L
  calm : calmB W f L = true
  low : ∀ M, calmB W f M = true → ∀ x ∈ L, x ∈ M
structure Great (W : Web) (f : List Int) (L : List Nat) : Prop where
  lot : IsLot W.gives.length L
  calm : calmB W f L = true
  top : ∀ M, IsLot W.gives.length M → calmB W f M = true → ∀ x ∈ M, x ∈ L
end
end Fn

namespace Fn
open PySem PySem.Spec PyProof.Rows L2 Uv
section
variable {W : Web} {f : List Int} {lot : List Nat}
end
end Fn

namespace Fn
open PySem PySem.Spec PyProof.Rows L2 Uv
section
variable {W : Web} {f : List Int}
end
end Fn

namespace Uv
variable {ρ : Env}
end Uv
namespace Fn
open PySem PySem.Spec PyProof.Rows L2 Uv
section
variable {W : Web} {f : List Int}
def Pth (W : Web) (R : List Nat) : Prop := ∀ (i : Nat) (h : i + 1 < R.length), ∃ y, (rd W (R[i]'(by omega))).e = some y ∧ (rd W R[i + 1]).b = some y
structure Wlk (W : Web) (f : List Int) (R : List Nat) : Prop where
  ne : R ≠ []
  opn : ∀ k ∈ R, k < W.roads.length ∧ openB W f k = true
  nd : R.Nodup
  path : Pth W R
  fst : ∀ k, R.head? = some k → fstB W f k = true
  lst : ∀ k, R.getLast? = some k → lstB W f k = true
end
end Fn

namespace Fn
open PySem PySem.Spec PyProof.Rows L2 Uv
section
variable {W : Web} {f : List Int}
end
end Fn

namespace Fn
open PySem PySem.Spec PyProof.Rows L2 Uv
section
variable {W : Web} {f : List Int} {R : List Nat}
end
end Fn

namespace Fn
open PySem PySem.Spec PyProof.Rows L2 Uv
section
variable {W : Web} {f : List Int}
end
end Fn

namespace Fn
open PySem PySem.Spec PyProof.Rows L2 Uv
section
variable {W : Web} {f : List Int} {R : List Nat}
end
end Fn

namespace Fn
open PySem PySem.Spec PyProof.Rows L2 Uv
end Fn

namespace Fn
open PySem PySem.Spec PyProof.Rows L2 Uv
section
variable {W : Web} {f : List Int} {R : List Nat}
end
end Fn

namespace Fn
open PySem PySem.Spec PyProof.Rows L2 Uv
section
variable {W : Web} {f : List Int}
end
end Fn

namespace Fn
open PySem PySem.Spec PyProof.Rows L2 Uv
section
variable {W : Web} {f : List Int}
end
end Fn

namespace Fn
open PySem PySem.Spec PyProof.Rows L2 Uv
section
variable {W : Web} {f : List Int}
end
end Fn

namespace Fn
open PySem PySem.Spec PyProof.Rows L2 Uv
section
variable {W : Web} {f : List Int}
structure Wk (W : Web) (f : List Int) (l : List (Int × PD)) (w : List Nat) : Prop where
  ne : w ≠ []
  path : Pth W w
  fst : ∀ k, w.head? = some k → fstB W f k = true
  mid : ∀ k ∈ w.dropLast, lstB W f k = false ∧ ∃ h : Nat, (rd W k).e = some h ∧ hasD l (h : Int) = true
  nd : (w.dropLast.map fun k => (rd W k).e).Nodup
end
end Fn

namespace Fn
open PySem PySem.Spec PyProof.Rows L2 Uv
theorem full_scr {d : PD} (h : scrF d = true) : full d = false := by
  cases d with
  | dict kvs =>
    cases kvs with
    | nil => rfl
    | cons p r =>
      obtain ⟨k, v⟩ := p
      cases k with
      | none => simp [scrF, scrFk] at h
      | _ => rfl
  | _ => rfl
structure Thg (d : PD) : Prop where
  sho : Sho 20 100000 d
  len : ∀ ds, d = .tuple ds → ds.length ≤ 30
def isN (m : Nat) : PD → Bool
  | .int i => decide (0 ≤ i) && decide (i < (m : Int))
  | _ => false
def toN : PD → Nat
  | .int i => i.toNat
  | _ => 0
theorem isN_eq {m : Nat} {x : PD} (h : isN m x = true) : x = natD (toN x) ∧ toN x < m := by
  cases x with
  | int i =>
    simp only [isN, Bool.and_eq_true, decide_eq_true_eq] at h
    exact ⟨by show PyData.int i = PyData.int (i.toNat : Int); rw [Int.toNat_of_nonneg h.1], by show i.toNat < m; omega⟩
  | _ => cases h
def isI0 : PD → Bool
  | .int _ => true
  | _ => false
theorem p_num {x : PD} (hx : full x = false) : F_is_number [x] = some (.bool (isI0 x)) := by
  refine eq_of_wp ?_
  unfold F_is_number
  refine wp_runP rfl ?_
  unfold X_is_number
  cases x <;> simp -implicitDefEqProofs [hx, isTy, isI0]
theorem p_numTo {x : PD} (hx : full x = false) {m : Nat} : F_is_number_to [x, .int ((m : Int) - 1)] = some (.bool (isN m x)) := by
  refine eq_of_wp ?_
  unfold F_is_number_to
  refine wp_runP rfl ?_
  unfold X_is_number_to
  cases x with
  | int i =>
    simp -implicitDefEqProofs [p_num hx, isI0, isN]
    by_cases c : 0 ≤ i
    · simp -implicitDefEqProofs [c]
      omega
    · simp -implicitDefEqProofs [c]
  | _ => simp -implicitDefEqProofs [p_num hx, isI0, isN]
theorem p_tupOf {d : PD} (hd : full d = false) {l m : Int} : F_is_tuple_of [d, .int l, .int m] = some (.bool (match d with | .tuple ds => decide (l ≤ (ds.length : Int)) && decide ((ds.length : Int) ≤ m) | _ => false)) := by
  refine eq_of_wp ?_
  unfold F_is_tuple_of
  refine wp_runP rfl ?_
  unfold X_is_tuple_of
  cases d with
  | tuple ds =>
    simp -implicitDefEqProofs [isTy]
  | _ => simp -implicitDefEqProofs [hd, isTy]
section
variable {W : Web} {f : List Int}
structure Row (W : Web) (f : List Int) (R : List Nat) : Prop where
  opn : ∀ k ∈ R, k < W.roads.length ∧ openB W f k = true
  nd : R.Nodup
  path : Pth W R
end
end Fn

namespace Fn
open PySem PySem.Spec PyProof.Rows L2 Uv
structure Lf (d : PD) : Prop where
  sho : Sho 1 60 d
  no : ∀ ds, d ≠ .tuple ds
def Bd (l : Nat) : Nat → PD → Prop
  | 0, d => Lf d
  | h + 1, d => Lf d ∨ ∃ ds, (d = .tuple ds ∨ d = .list ds) ∧ ds.length ≤ l ∧ ∀ x ∈ ds, Bd l h x
def bdN (l : Nat) : Nat → Nat
  | 0 => 60
  | h + 1 => l * (bdN l h + 2) + 63
theorem Bd.sho {l : Nat} : ∀ {h : Nat} {d : PD}, Bd l h d → Sho (1 + h) (bdN l h) d
  | 0, d, q => Lf.sho q
  | h + 1, d, q => by
    have eN : bdN l (h + 1) = l * (bdN l h + 2) + 63 := rfl
    rcases q with q | ⟨ds, e, dl, m⟩
    · exact (Lf.sho q).mono (by omega) (by rw [eN]; omega)
    · rcases e with rfl | rfl
      · exact (Sho.tup (fun x hx => (m x hx).sho) dl).mono (by omega) (by rw [eN]; omega)
      · exact (Sho.lst (fun x hx => (m x hx).sho) dl).mono (by omega) (by rw [eN]; omega)
theorem Bd.full {l h : Nat} {d : PD} (q : Bd l h d) : Uv.full d = false := full_scr q.sho.nd
theorem Bd.tup {l h : Nat} {ds : List PD} (q : Bd l (h + 1) (.tuple ds)) : ds.length ≤ l ∧ ∀ x ∈ ds, Bd l h x := by
  rcases q with q | ⟨es, e, dl, m⟩
  · exact absurd rfl (q.no ds)
  · rcases e with e | e
    · cases e; exact ⟨dl, m⟩
    · exact nomatch e
theorem Bd.tup0 {l h : Nat} {ds : List PD} (q : Bd l h (.tuple ds)) : ∃ h', h = h' + 1 := by
  cases h with
  | zero => exact absurd rfl (Lf.no q ds)
  | succ h => exact ⟨h, rfl⟩
theorem Bd.mk {l h : Nat} {ds : List PD} (dl : ds.length ≤ l) (m : ∀ x ∈ ds, Bd l h x) : Bd l (h + 1) (.tuple ds) := .inr ⟨ds, .inl rfl, dl, m⟩
theorem Lf.int {i : Int} (h : i.natAbs < 10 ^ 40) : Lf (.int i) := ⟨(Sho.int (k := 0) h).mono (by decide) (by decide), fun ds e => nomatch e⟩
end Fn

namespace Fn
open PySem PySem.Spec PyProof.Rows L2 Uv
section
variable {W : Web} {f : List Int}
end
end Fn

namespace Fn
open PySem PySem.Spec PyProof.Rows L2 Uv
def flt (p : List PD) (w : String) : PD := .tuple [.tuple p, .str w]
def isEndB (n : Nat) (x : PD) : Bool := isNone x || isN n x
def rfD (n k : Nat) : PD → PD
  | .tuple [b, e, r] => if isEndB n b = false then flt [.int 0, natD k, .int 0] "begin" else if isEndB n e = false then flt [.int 0, natD k, .int 1] "end" else if PyData.eqv b e = true then flt [.int 0, natD k] "alike" else if isN 1000000000001 r = false then flt [.int 0, natD k, .int 2] "room" else .none
  | _ => flt [.int 0, natD k] "road"
theorem p_isEnd {n : Nat} {x : PD} (hx : full x = false) : F_is_end [x, natD n] = some (.bool (isEndB n x)) := by
  refine eq_of_wp ?_
  unfold F_is_end
  refine wp_runP rfl ?_
  unfold X_is_end
  unfold isEndB
  cases q : isNone x with
  | true => simp -implicitDefEqProofs [q]
  | false => simp -implicitDefEqProofs [q, p_numTo hx]
theorem end_lay {n : Nat} {x : PD} (h : isEndB n x = true) : Lay 60 x := by
  cases x with
  | none => exact Lay.non
  | int i => exact Lay.int
  | _ => exact nomatch h
theorem p_numT {x : PD} (hx : full x = false) : F_is_number_to [x, .int 1000000000000] = some (.bool (isN 1000000000001 x)) := by
  have := p_numTo hx (m := 1000000000001)
  exact this
theorem p_roadF {l h n k : Nat} {x : PD} (t : Bd l h x) : F_road_fault [natD k, x, natD n] = some (rfD n k x) := by
  refine eq_of_wp ?_
  unfold F_road_fault
  refine wp_runP rfl ?_
  unfold X_road_fault
  have e := p_tupOf t.full (l := 3) (m := 3)
  have no : F_is_tuple_of [x, .int 3, .int 3] = some (.bool false) → rfD n k x = flt [.int 0, natD k] "road" → wp (X_road_fault [.dat (natD k), .dat x, .dat (natD n), .un, .un, .un]) (tag (endP (tag fun y => y = rfD n k x))) := fun e1 e2 => by
    rw [e2]
    unfold X_road_fault
    simp -implicitDefEqProofs [e1]
    rfl
  unfold X_road_fault at no
  match x, t, e, no with
  | .tuple [b, e0, r], t, e, _ =>
    obtain ⟨h', rfl⟩ := t.tup0
    obtain ⟨_, dm⟩ := t.tup
    have fb := (dm b (by simp)).full
    have fe := (dm e0 (by simp)).full
    have fr := (dm r (by simp)).full
    have e : F_is_tuple_of [.tuple [b, e0, r], .int 3, .int 3] = some (.bool true) := e
    have eq : rfD n k (.tuple [b, e0, r]) = (if isEndB n b = false then flt [.int 0, natD k, .int 0] "begin" else if isEndB n e0 = false then flt [.int 0, natD k, .int 1] "end" else if PyData.eqv b e0 = true then flt [.int 0, natD k] "alike" else if isN 1000000000001 r = false then flt [.int 0, natD k, .int 2] "room" else .none) := rfl
    rw [eq]
    simp -implicitDefEqProofs [e, p_isEnd fb, p_isEnd fe]
    cases c1 : isEndB n b with
    | false => simp -implicitDefEqProofs; rfl
    | true =>
      simp -implicitDefEqProofs [p_isEnd fe]
      cases c2 : isEndB n e0 with
      | false => simp -implicitDefEqProofs; rfl
      | true =>
        have eqq := eqP_lay (end_lay c1) (end_lay c2)
        simp -implicitDefEqProofs [eqq]
        cases c3 : PyData.eqv b e0 with
        | true => simp -implicitDefEqProofs; rfl
        | false =>
          simp -implicitDefEqProofs [p_numT fr]
          cases c4 : isN 1000000000001 r with
          | false => simp -implicitDefEqProofs; rfl
          | true => simp -implicitDefEqProofs
  | .tuple [], t, e, no => exact no e rfl
  | .tuple [a], t, e, no => exact no e rfl
  | .tuple [a, b], t, e, no => exact no e rfl
  | .tuple (a :: b :: c :: d :: r), t, e, no =>
    refine no ?_ rfl
    rw [e]
    congr 2
    show (decide _ && decide ((((a :: b :: c :: d :: r).length : Nat) : Int) ≤ 3)) = false
    rw [Bool.and_eq_false_iff]
    right
    exact decide_eq_false (by simp; omega)
  | .none, t, e, no => exact no e rfl
  | .bool _, t, e, no => exact no e rfl
  | .int _, t, e, no => exact no e rfl
  | .str _, t, e, no => exact no e rfl
  | .list _, t, e, no => exact no e rfl
  | .dict _, t, e, no => exact no e rfl
end Fn

namespace Fn
open PySem PySem.Spec PyProof.Rows L2 Uv TL
def numS (n : Nat) : Str := Str.ofString (toString ((n : Nat) : Int))
def wordS : Option Nat → Str
  | none => "-"
  | some n => numS n
def listS (l : List Nat) : Str := if l = [] then "-" else Txt.join "," (l.map numS)
def roadS (x : Road) : Str := "road " ++ wordS x.b ++ " " ++ wordS x.e ++ " " ++ numS x.r.toNat
def ordS (w : Str) (l : List Nat) : Str := w ++ " " ++ listS l
def housS (n : Nat) : Str := "houses " ++ numS n
def linesS (W : Web) : List Str := housS W.gives.length :: (W.roads.map roadS ++ (W.gives.map (ordS "give") ++ W.takes.map (ordS "take")))
def textS (W : Web) : Str := Txt.join "" ((linesS W).map (· ++ "\n"))
section
variable {n : Nat} {l : List Nat} {a b : Str}
theorem tl_numS : tl (numS n) = numL n := tl_num n
theorem len_app : (a ++ b).length = a.length + b.length := by rw [len_tl, len_tl, len_tl, tl_append, List.length_append]
theorem len_numS (h : n < 10 ^ 13) : (numS n).length ≤ 13 := by rw [len_tl, tl_numS]; exact numL_len (by decide) h
theorem len_wordS {o : Option Nat} (h : ∀ n, o = some n → n < 10 ^ 13) : (wordS o).length ≤ 13 := by
  cases o with
  | none => decide
  | some n => exact len_numS (h n rfl)
def Sg (p : Nat → Bool) (x : Str) : Prop := ∀ c ∈ tl x, p c = true
theorem Sg.app {p : Nat → Bool} (ha : Sg p a) (hb : Sg p b) : Sg p (a ++ b) := fun c hc => by
  rw [tl_append] at hc
  rcases List.mem_append.mp hc with z | z
  · exact ha c z
  · exact hb c z
theorem sg_lit {p : Nat → Bool} {x : Str} (h : (tl x).all p = true) : Sg p x := fun c hc => List.all_eq_true.mp h c hc
theorem sg_num {p : Nat → Bool} (h : ∀ c, 48 ≤ c → c ≤ 57 → p c = true) : Sg p (numS n) := fun c hc => by
  rw [tl_numS] at hc
  have := numL_digits n c hc
  exact h c this.1 this.2
theorem mem_joinT {S : List Nat} {c : Nat} : ∀ {ps : List (List Nat)}, c ∈ TL.joinL S ps → c ∈ S ∨ ∃ p ∈ ps, c ∈ p
  | [], h => nomatch h
  | [p], h => .inr ⟨p, List.mem_cons_self .., h⟩
  | p :: q :: r, h => by
    rcases List.mem_append.mp (show c ∈ p ++ (S ++ TL.joinL S (q :: r)) from h) with z | z
    · exact .inr ⟨p, List.mem_cons_self .., z⟩
    · rcases List.mem_append.mp z with z | z
      · exact .inl z
      · rcases mem_joinT z with z | ⟨p', hp, z⟩
        · exact .inl z
        · exact .inr ⟨p', List.mem_cons_of_mem _ hp, z⟩
theorem tl_joinT (y : Str) (ps : List Str) : tl (Txt.join y ps) = TL.joinL (tl y) (ps.map tl) := by rw [join_eq, tl_join]
theorem sg_join {p : Nat → Bool} {y : Str} {ps : List Str} (hy : Sg p y) (hp : ∀ x ∈ ps, Sg p x) : Sg p (Txt.join y ps) := fun c hc => by
  rw [tl_joinT] at hc
  rcases mem_joinT hc with z | ⟨q, hq, z⟩
  · exact hy c z
  · obtain ⟨x, hx, rfl⟩ := List.mem_map.mp hq
    exact hp x hx c z
theorem sg_word {p : Nat → Bool} {o : Option Nat} (h : ∀ c, 48 ≤ c → c ≤ 57 → p c = true) (hd : p 45 = true) : Sg p (wordS o) := by
  cases o with
  | none => exact sg_lit (x := "-") (by show [45].all p = true; simp [hd])
  | some n => exact sg_num h
theorem sg_list {p : Nat → Bool} (h : ∀ c, 48 ≤ c → c ≤ 57 → p c = true) (hd : p 45 = true) (hc : p 44 = true) : Sg p (listS l) := by
  unfold listS
  split
  · exact sg_lit (x := "-") (by show [45].all p = true; simp [hd])
  · refine sg_join (sg_lit (x := ",") (by show [44].all p = true; simp [hc])) fun x hx => ?_
    obtain ⟨n, _, rfl⟩ := List.mem_map.mp hx
    exact sg_num h
theorem lens_le : ∀ {l : List Nat}, (∀ k ∈ l, k < 10 ^ 13) → ((l.map numS).map (·.length)).sum ≤ l.length * 13
  | [], _ => Nat.le_refl _
  | x :: l, h => by
    have h3 := lens_le (l := l) fun k hk => h k (List.mem_cons_of_mem _ hk)
    have h4 := len_numS (h x (List.mem_cons_self ..))
    rw [List.map_cons, List.map_cons, List.sum_cons, List.length_cons]
    omega
theorem len_listS (h : ∀ k ∈ l, k < 10 ^ 13) (hl : l.length ≤ 40) : (listS l).length ≤ 600 := by
  unfold listS
  split
  · decide
  · rw [join_eq]
    have h1 := StrLaws.join_length_le "," (l.map numS)
    have h2 := lens_le h
    have h3 : (",": Str).length = 1 := by decide
    rw [h3, List.length_map] at h1
    omega
theorem join_ends {s : Str} : ∀ ls : List Str, Txt.join "" (ls.map (· ++ s)) = Txt.join s (ls ++ [("" : Str)]) := fun ls => by
  refine ext_tl ?_
  rw [tl_joinT, tl_joinT]
  have e0 : tl ("" : Str) = [] := by decide
  rw [e0]
  induction ls with
  | nil => show TL.joinL [] [] = TL.joinL (tl s) [tl ("" : Str)]; rw [e0]; rfl
  | cons x ls ih =>
    cases ls with
    | nil =>
      show tl (x ++ s) = tl x ++ (tl s ++ tl ("" : Str))
      rw [tl_append, e0, List.append_nil]
    | cons y ls =>
      show tl (x ++ s) ++ ([] ++ TL.joinL [] ((y :: ls).map (· ++ s) |>.map tl)) = tl x ++ (tl s ++ TL.joinL (tl s) ((y :: ls ++ [("" : Str)]).map tl))
      rw [ih, tl_append, List.nil_append, List.append_assoc]
end
end Fn

namespace Uv
open PySem PySem.Spec PyProof.Rows L2
def jsK (xs : List XE) (acc : Str) (ρ : VE) : PD → Option PD
  | .str y => if (acc ++ y).length ≤ 16000000 then xJs xs (acc ++ y) ρ else none
  | _ => none
@[simp] theorem q_xJs_nil {acc : Str} {ρ : VE} : xJs [] acc ρ = some (.str acc) := (rfl)
@[simp] theorem q_xJs_cons {x : XE} {xs : List XE} {acc : Str} {ρ : VE} : xJs (x :: xs) acc ρ = (x ρ).bind (jsK xs acc ρ) := by
  show (x ρ).bind _ = _
  congr 1
@[simp] theorem q_jsK {xs : List XE} {acc y : Str} {ρ : VE} : jsK xs acc ρ (.str y) = grd ((acc ++ y).length ≤ 16000000) (xJs xs (acc ++ y) ρ) := by
  show (if _ then _ else none) = _
  exact grd_ite
end Uv
namespace Fn
open PySem PySem.Spec PyProof.Rows L2 Uv TL
section
variable {n : Nat} {l : List Nat} {a b y s : Str} {W : Web}
theorem log_le {n : Nat} (h : n < 10 ^ 13) : n.log2 < 1920 := by
  by_cases z : n = 0
  · subst z; decide
  · exact (Nat.log2_lt z).mpr (Nat.lt_of_lt_of_le h (Nat.le_trans (show 10 ^ 13 ≤ 2 ^ 44 by decide) (Nat.pow_le_pow_right (by decide) (by decide))))
theorem s_num (h : n < 10 ^ 13) : strP (natD n) = some (.str (numS n)) := by
  show (if ((n : Int)).natAbs.log2 < 1920 then some (PyData.str (toString (n : Int))) else none) = _
  rw [if_pos (by show n.log2 < 1920; exact log_le h)]
  rfl
theorem f_num (h : n < 10 ^ 13) : fmtT (natD n) = some (.str (numS n)) := by
  show (if ((n : Int)).natAbs.log2 < 1920 then some (PyData.str (toString (n : Int))) else none) = _
  rw [if_pos (by show n.log2 < 1920; exact log_le h)]
  rfl
theorem f_str (h : y.length ≤ 16000000) : fmtT (.str y) = some (.str y) := if_pos h
theorem join_f {ys : List Str} (h : (ys.map (·.length)).sum + ys.length * s.length ≤ 16777216) : joinT (.str s) (.list (ys.map PyData.str)) = some (.str (Txt.join s ys)) := by
  show (unS (ys.map PyData.str)).bind _ = _
  rw [@unS_map kk0, Option.bind_some, if_pos h]
theorem p_end_word {o : Option Nat} (h : ∀ n, o = some n → n < 10 ^ 13) : F_end_word [endD o] = some (.str (wordS o)) := by
  refine eq_of_wp ?_
  unfold F_end_word
  refine wp_runP rfl ?_
  unfold X_end_word
  cases o with
  | none =>
    simp -implicitDefEqProofs [endD]
    rfl
  | some n =>
    have e := s_num (h n rfl)
    simp -implicitDefEqProofs [endD, e]
    rfl
theorem p_houses_line (h : n < 10 ^ 13) : F_houses_line [natD n] = some (.str (housS n)) := by
  have hl := len_numS h
  have e := f_num h
  have l7 : ("houses " : Str).length = 7 := by decide
  have l0 : Str.empty.length = 0 := by decide
  refine eq_of_wp ?_
  unfold F_houses_line
  refine wp_runP rfl ?_
  unfold X_houses_line
  simp -implicitDefEqProofs [e, len_app, l7, l0]
  refine ⟨by omega, ?_⟩
  rw [Str.empty_append]
  rfl
structure OkR (x : Road) : Prop where
  b : ∀ n, x.b = some n → n < 10 ^ 13
  e : ∀ n, x.e = some n → n < 10 ^ 13
  r0 : 0 ≤ x.r
  r1 : x.r ≤ 1000000000000
theorem OkR.num {x : Road} (h : OkR x) : x.r.toNat < 10 ^ 13 := by
  have h1 := h.r0
  have h2 := h.r1
  have : (1000000000000 : Nat) < 10 ^ 13 := by decide
  omega
theorem roadD_nat {x : Road} (h : OkR x) : roadD x = .tuple [endD x.b, endD x.e, natD x.r.toNat] := by
  unfold roadD
  rw [show PyData.int x.r = natD x.r.toNat from (natD_toNat h.r0).symm]
theorem p_road_line {x : Road} (h : OkR x) : F_road_line [roadD x] = some (.str (roadS x)) := by
  have e1 := p_end_word h.b
  have e2 := p_end_word h.e
  have hn := h.num
  have e3 := f_num hn
  have l1 := len_wordS h.b
  have l2 := len_wordS h.e
  have l3 := len_numS hn
  have g1 := f_str (y := wordS x.b) (by omega)
  have g2 := f_str (y := wordS x.e) (by omega)
  have l5 : ("road " : Str).length = 5 := by decide
  have l6 : (" " : Str).length = 1 := by decide
  have l0 : Str.empty.length = 0 := by decide
  have es : seqP (.tuple [endD x.b, endD x.e, natD x.r.toNat]) = some [endD x.b, endD x.e, natD x.r.toNat] := rfl
  rw [roadD_nat h]
  refine eq_of_wp ?_
  unfold F_road_line
  refine wp_runP rfl ?_
  unfold X_road_line
  simp -implicitDefEqProofs [es, gCons', gName', gNil', e1, e2, e3, g1, g2, len_app, l5, l6, l0]
  refine ⟨by omega, by omega, by omega, by omega, by omega, ?_⟩
  rw [Str.empty_append]
  rfl
theorem join_listS (h : ∀ k ∈ l, k < 10 ^ 13) (hl : l.length ≤ 40) : joinT (.str ",") (.list (l.map fun k => .str (numS k))) = some (.str (Txt.join "," (l.map numS))) := by
  have e : (l.map fun k => PyData.str (numS k)) = (l.map numS).map PyData.str := by rw [List.map_map]; rfl
  have h1 := lens_le h
  have h3 : (",": Str).length = 1 := by decide
  rw [e]
  refine join_f ?_
  rw [List.length_map, h3]
  omega
theorem p_order_line {w : Str} (hw : w.length ≤ 100) (h : ∀ k ∈ l, k < 10 ^ 13) (hl : l.length ≤ 40) : F_order_line [.str w, natsD l] = some (.str (ordS w l)) := by
  have g1 := f_str (y := w) (by omega)
  have hL := len_listS h hl
  have g2 := f_str (y := listS l) (by omega)
  have l6 : (" " : Str).length = 1 := by decide
  have l0 : Str.empty.length = 0 := by decide
  refine eq_of_wp ?_
  unfold F_order_line
  refine wp_runP rfl ?_
  unfold X_order_line
  have fin : wp (sRet (wM (xJs [xUn fmtT (xVar 0), (xC (.str " ")), xUn fmtT (xVar 2)] Str.empty)) [.dat (.str w), .dat (natsD l), .dat (.str (listS l)), .un]) (tag (endP (tag fun x => x = .str (ordS w l)))) := by
    simp -implicitDefEqProofs [g1, g2, len_app, l6, l0]
    refine ⟨by omega, by omega, by omega, ?_⟩
    rw [Str.empty_append]
    rfl
  cases l with
  | nil =>
    have := fin
    simp -implicitDefEqProofs at this ⊢
    exact this
  | cons x l =>
    have ej := join_listS h hl
    have c : 0 < (x :: l).length := by simp
    have el : listS (x :: l) = Txt.join "," ((x :: l).map numS) := if_neg (by simp)
    obtain ⟨X, hX⟩ : ∃ X, X = sRet (wM (xJs [xUn fmtT (xVar 0), (xC (.str " ")), xUn fmtT (xVar 2)] Str.empty)) := ⟨_, rfl⟩
    rw [← hX] at fin ⊢
    obtain ⟨m, hm⟩ : ∃ m, m = x :: l := ⟨_, rfl⟩
    rw [← hm] at h hl ej c el fin ⊢
    simp -implicitDefEqProofs
    rw [decide_eq_true c]
    simp -implicitDefEqProofs
    refine ⟨by omega, wp_lcT (fun k => .str (numS k)) (fun k hk => ?_) ?_⟩
    · simp -implicitDefEqProofs [s_num (h k hk)]
    simp -implicitDefEqProofs [ej]
    rw [← el]
    exact fin
end
end Fn

namespace Fn
open PySem PySem.Spec PyProof.Rows L2 Uv TL
section
variable {n : Nat} {l : List Nat} {a b y s : Str} {W : Web}
theorem okr_of {x : Road} {n : Nat} (h : OkRoad n x) (hn : n ≤ 8) : OkR x := by
  obtain ⟨_, h1, h2, h3, h4⟩ := h
  have c : (8 : Nat) < 10 ^ 13 := by decide
  exact ⟨fun k e => by have := h1 k e; omega, fun k e => by have := h2 k e; omega, h3, h4⟩
theorem ord_lim (hw : IsWeb W) (hl : l ∈ W.gives ∨ l ∈ W.takes) : (∀ k ∈ l, k < 20) ∧ l.length ≤ 20 := by
  have hc := hw.count
  have key : ∀ s h, l.Perm (atR W.roads s h) → (∀ k ∈ l, k < 20) ∧ l.length ≤ 20 := fun s h p => by
    refine ⟨fun k hk => ?_, ?_⟩
    · have := atR_lt (p.mem_iff.mp hk)
      omega
    · rw [p.length_eq]
      exact Nat.le_trans atR_len hc.2
  rcases hl with z | z
  · obtain ⟨h, hh, e⟩ := List.mem_iff_getElem.mp z
    exact key 0 h (hw.give h l (by rw [List.getElem?_eq_getElem hh, e]))
  · obtain ⟨h, hh, e⟩ := List.mem_iff_getElem.mp z
    exact key 1 h (hw.take h l (by rw [List.getElem?_eq_getElem hh, e]))
theorem lim13 {k : Nat} (h : k < 20) : k < 10 ^ 13 := Nat.lt_of_lt_of_le h (by decide)
theorem len_road {x : Road} (h : OkR x) : (roadS x).length ≤ 60 := by
  have l1 := len_wordS h.b
  have l2 := len_wordS h.e
  have l3 := len_numS h.num
  have l5 : ("road " : Str).length = 5 := by decide
  have l6 : (" " : Str).length = 1 := by decide
  unfold roadS
  simp only [len_app, l5, l6]
  omega
theorem len_ord {w : Str} (hw : w.length ≤ 100) (h : ∀ k ∈ l, k < 20) (hl : l.length ≤ 20) : (ordS w l).length ≤ 800 := by
  have l2 := len_listS (l := l) (fun k hk => lim13 (h k hk)) (by omega)
  have l6 : (" " : Str).length = 1 := by decide
  unfold ordS
  simp only [len_app, l6]
  omega
theorem lines_len (hw : IsWeb W) : ∀ x ∈ linesS W, x.length ≤ 800 := fun x hx => by
  have hh := hw.houses
  unfold linesS at hx
  rcases List.mem_cons.mp hx with rfl | hx
  · have l3 := len_numS (n := W.gives.length) (Nat.lt_of_le_of_lt hh.2 (by decide))
    have l5 : ("houses " : Str).length = 7 := by decide
    unfold housS
    simp only [len_app, l5]
    omega
  · rcases List.mem_append.mp hx with hx | hx
    · obtain ⟨r, hr, rfl⟩ := List.mem_map.mp hx
      exact Nat.le_trans (len_road (okr_of (hw.road r hr) hh.2)) (by decide)
    · rcases List.mem_append.mp hx with hx | hx
      · obtain ⟨l, hl, rfl⟩ := List.mem_map.mp hx
        have := ord_lim hw (.inl hl)
        exact len_ord (by decide) this.1 this.2
      · obtain ⟨l, hl, rfl⟩ := List.mem_map.mp hx
        have := ord_lim hw (.inr hl)
        exact len_ord (by decide) this.1 this.2
theorem lines_many (hw : IsWeb W) : (linesS W).length ≤ 40 := by
  have hh := hw.houses
  have hc := hw.count
  have hs := hw.same
  unfold linesS
  simp
  omega
theorem sum_leT {b : Nat} : ∀ {ls : List Str}, (∀ x ∈ ls, x.length ≤ b) → (ls.map (·.length)).sum ≤ ls.length * b
  | [], _ => Nat.zero_le _
  | x :: ls, h => by
    have h3 := sum_leT (ls := ls) fun k hk => h k (List.mem_cons_of_mem _ hk)
    have h4 := h x (List.mem_cons_self ..)
    rw [List.map_cons, List.sum_cons, List.length_cons, Nat.succ_mul]
    omega
theorem join_text (hw : IsWeb W) : joinT (.str "") (.list ((linesS W).map fun x : Str => .str (x ++ ("\n" : Str)))) = some (.str (textS W)) := by
  have e : ((linesS W).map fun x : Str => PyData.str (x ++ ("\n" : Str))) = ((linesS W).map fun x : Str => x ++ ("\n" : Str)).map PyData.str := by rw [List.map_map]; rfl
  rw [e]
  have lm := lines_many hw
  have h0 : ("" : Str).length = 0 := by decide
  refine join_f ?_
  have h1 := sum_leT (b := 801) (ls := (linesS W).map fun x : Str => x ++ ("\n" : Str)) fun x hx => by
    obtain ⟨y, hy, rfl⟩ := List.mem_map.mp hx
    have := lines_len hw y hy
    have h3 : ("\n" : Str).length = 1 := by decide
    rw [len_app, h3]
    omega
  rw [h0, List.length_map] at *
  omega
theorem add_end (h : y.length ≤ 800) : addX (.str y) (.str "\n") = some (.str (y ++ "\n")) := by
  have h3 : ("\n" : Str).length = 1 := by decide
  show (if y.length + ("\n" : Str).length ≤ 16000000 then some _ else none) = _
  rw [if_pos (by rw [h3]; omega)]
theorem lines_pd : (linesS W).map PyData.str = PyData.str (housS W.gives.length) :: (List.map (fun r => PyData.str (roadS r)) W.roads ++ (List.map (fun r => PyData.str (ordS (Str.ofString "give") r)) W.gives ++ List.map (fun r => PyData.str (ordS (Str.ofString "take") r)) W.takes)) := by
  unfold linesS
  rw [List.map_cons, List.map_append, List.map_append, List.map_map, List.map_map, List.map_map]
  rfl
theorem p_web_text (hw : IsWeb W) : F_web_text [webD W] = some (.str (textS W)) := by
  have hh := hw.houses
  have hc := hw.count
  have hs := hw.same
  have e1 := p_houses_line (n := W.gives.length) (Nat.lt_of_le_of_lt hh.2 (by decide))
  have eW : seqP (webD W) = some [.tuple (W.roads.map roadD), .tuple (W.gives.map natsD), .tuple (W.takes.map natsD)] := rfl
  refine eq_of_wp ?_
  unfold F_web_text
  refine wp_runP rfl ?_
  unfold X_web_text
  have lg : lenP (.tuple (W.gives.map natsD)) = some (natD W.gives.length) := by rw [q_len_t, List.length_map]
  simp -implicitDefEqProofs [eW, gCons', gName', gNil', e1]
  refine ⟨by omega, wp_lcT (fun r => .str (roadS r)) (fun r hr => ?_) ?_⟩
  · simp -implicitDefEqProofs [p_road_line (okr_of (hw.road r hr) hh.2)]
  simp -implicitDefEqProofs
  refine ⟨by omega, by omega, wp_lcT (fun r => .str (ordS "give" r)) (fun r hr => ?_) ?_⟩
  · have := ord_lim hw (.inl hr)
    simp -implicitDefEqProofs [p_order_line (w := "give") (by decide) (fun k hk => lim13 (this.1 k hk)) (Nat.le_trans this.2 (by decide))]
  simp -implicitDefEqProofs
  refine ⟨by omega, by omega, wp_lcT (fun r => .str (ordS "take" r)) (fun r hr => ?_) ?_⟩
  · have := ord_lim hw (.inr hr)
    simp -implicitDefEqProofs [p_order_line (w := "take") (by decide) (fun k hk => lim13 (this.1 k hk)) (Nat.le_trans this.2 (by decide))]
  simp -implicitDefEqProofs
  refine ⟨by omega, by omega, ?_⟩
  rw [← lines_pd]
  refine wp_lcT (enc := PyData.str) (fun x : Str => .str (x ++ ("\n" : Str))) (fun x hx => ?_) ?_
  · simp -implicitDefEqProofs [add_end (lines_len hw x hx)]
  have j := join_text hw
  simp -implicitDefEqProofs [j]
end
end Fn

namespace Fn
open PySem PySem.Spec PyProof.Rows L2 Uv TL
section
variable {n : Nat} {l : List Nat} {a b y s : Str} {W : Web}
theorem add_s (h : a.length + b.length ≤ 16000000) : addX (.str a) (.str b) = some (.str (a ++ b)) := if_pos h
end
end Fn

namespace Fn
open PySem PySem.Spec PyProof.Rows L2 Uv TL
def digB (c : Nat) : Bool := decide (48 ≤ c ∧ c ≤ 57)
def ascB (c : Nat) : Bool := decide (c < 128)
section
variable {n m : Nat} {l : List Nat} {a b y s x : Str} {W : Web}
theorem all_tl {p : Nat → Bool} (h : Sg p x) : x.cps.all p = true := by
  rw [← Array.all_toList]
  exact List.all_eq_true.mpr h
theorem Sg.mono {p q : Nat → Bool} (h : Sg p x) (k : ∀ c, p c = true → q c = true) : Sg q x := fun c hc => k c (h c hc)
theorem sg_asc (h : Sg ascB x) : PyData.strOk x = true := all_tl (h.mono fun c hc => by
  have : c < 128 := of_decide_eq_true hc
  exact decide_eq_true (by omega))
theorem asc_num : Sg ascB (numS n) := sg_num fun c h1 h2 => decide_eq_true (by omega)
theorem asc_word {o : Option Nat} : Sg ascB (wordS o) := sg_word (fun c h1 h2 => decide_eq_true (by omega)) rfl
theorem asc_list : Sg ascB (listS l) := sg_list (fun c h1 h2 => decide_eq_true (by omega)) rfl rfl
theorem asc_road {x : Road} : Sg ascB (roadS x) := ((((sg_lit (by decide)).app asc_word).app (sg_lit (by decide))).app asc_word).app (sg_lit (by decide)) |>.app asc_num
theorem asc_ord {w : Str} (h : Sg ascB w) : Sg ascB (ordS w l) := (h.app (sg_lit (by decide))).app asc_list
theorem asc_hous : Sg ascB (housS n) := (sg_lit (by decide)).app asc_num
theorem asc_lines : ∀ x ∈ linesS W, Sg ascB x := fun x hx => by
  unfold linesS at hx
  rcases List.mem_cons.mp hx with rfl | hx
  · exact asc_hous
  · rcases List.mem_append.mp hx with hx | hx
    · obtain ⟨r, hr, rfl⟩ := List.mem_map.mp hx
      exact asc_road
    · rcases List.mem_append.mp hx with hx | hx
      · obtain ⟨l, hl, rfl⟩ := List.mem_map.mp hx
        exact asc_ord (sg_lit (by decide))
      · obtain ⟨l, hl, rfl⟩ := List.mem_map.mp hx
        exact asc_ord (sg_lit (by decide))
theorem asc_text : Sg ascB (textS W) := sg_join (sg_lit (by decide)) fun x hx => by
  obtain ⟨y, hy, rfl⟩ := List.mem_map.mp hx
  exact (asc_lines y hy).app (sg_lit (by decide))
theorem shp_strT {x : Str} (h : PyData.strOk x = true) : SeqAt.shaped (.str x) = true := by
  unfold SeqAt.shaped
  rw [show PyData.canLay0 (.str x) = PyData.strOk x by simp [PyData.canLay0], h]
  rfl
theorem eq_strs (ha : Sg ascB a) (hb : Sg ascB b) : eqP (.str a) (.str b) = some (.bool (decide (a = b))) := by
  unfold eqP
  rw [if_pos ⟨shp_strT (sg_asc ha), shp_strT (sg_asc hb)⟩]
  rfl
end
end Fn

namespace Fn
open PySem PySem.Spec PyProof.Rows L2 Uv TL
section
variable {n m : Nat} {l : List Nat} {a b y s x : Str} {W : Web}
theorem dig_dig {c : Nat} (h : digB c = true) : Unicode.isDigit c = true := by
  have h : 48 ≤ c ∧ c ≤ 57 := of_decide_eq_true h
  have : ∀ c, c < 58 → 48 ≤ c → Unicode.isDigit c = true := by decide +kernel
  exact this c (by omega) h.1
theorem dig_num : Sg digB (numS n) := sg_num fun c h1 h2 => decide_eq_true ⟨h1, h2⟩
theorem isasc (h : Sg ascB x) : isascT (.str x) = some (.bool true) := by
  show some (PyData.bool (Txt.isascii x)) = _
  rw [show Txt.isascii x = true from all_tl h]
theorem isdig_no {c : Nat} (hc : c ∈ tl x) (hd : Unicode.isDigit c = false) : isdigT (.str x) = some (.bool false) := by
  show some (PyData.bool (Txt.isdigit x)) = _
  have h1 : Txt.isdigit x = (decide (x.length > 0) && x.cps.all Unicode.isDigit) := rfl
  have h2 : x.cps.all Unicode.isDigit = false := by
    rw [← Array.all_toList, List.all_eq_false]
    exact ⟨c, hc, by rw [hd]; decide⟩
  rw [h1, h2, Bool.and_false]
theorem head_num : ∀ (n : Nat), 0 < n → ∃ c r, numL n = c :: r ∧ c ≠ 48 := by
  intro n
  induction n using Nat.strongRecOn with
  | ind n ih =>
    intro h
    by_cases c : n < 10
    · exact ⟨48 + n, [], numL_lt c, by omega⟩
    · obtain ⟨d, r, e, hd⟩ := ih (n / 10) (by omega) (by omega)
      exact ⟨d, r ++ [48 + n % 10], by rw [numL_step (by omega), e]; rfl, hd⟩
theorem free_of_sg {p : Nat → Bool} {c : Nat} (h : Sg p x) (hc : p c = false) : c ∉ tl x := fun z => by
  rw [h c z] at hc
  exact nomatch hc
theorem ord_join {w : Str} : ordS w l = Txt.join " " [w, listS l] := by
  refine ext_tl ?_
  rw [tl_joinT]
  unfold ordS
  rw [tl_append, tl_append, List.append_assoc]
  rfl
end
end Fn

namespace Fn
open PySem PySem.Spec PyProof.Rows L2 Uv TL
section
variable {n m : Nat} {l : List Nat} {a b y s x : Str} {W : Web}
end
end Fn

namespace Fn
open PySem PySem.Spec PyProof.Rows L2 Uv TL
section
variable {n m : Nat} {l : List Nat} {a b y s x : Str} {W : Web}
theorem lf_end {o : Option Nat} (h : ∀ n, o = some n → n < 10 ^ 13) : Lf (endD o) := by
  cases o with
  | none => exact ⟨(Sho.non (k := 0)).mono (by decide) (by decide), fun ds e => nomatch e⟩
  | some j =>
    have := h j rfl
    have c : (10 : Nat) ^ 13 < 10 ^ 20 := by decide
    exact Lf.int (by show (j : Int).natAbs < _; omega)
theorem rf_ok {x : Road} {n k : Nat} (h : OkRoad n x) : rfD n k (roadD x) = .none := by
  obtain ⟨h0, h1, h2, h3, h4⟩ := h
  have e : ∀ o : Option Nat, (∀ h, o = some h → h < n) → isEndB n (endD o) = true := fun o ho => by
    cases o with
    | none => rfl
    | some k =>
      have := ho k rfl
      show (decide (0 ≤ (k : Int)) && decide ((k : Int) < (n : Int))) = true
      rw [decide_eq_true (by omega), decide_eq_true (by omega)]
      rfl
  have e3 : PyData.eqv (endD x.b) (endD x.e) = false := by
    cases q : x.b <;> cases r : x.e
    · exact absurd (q.trans r.symm) h0
    · rfl
    · rfl
    · rename_i i j
      have : i ≠ j := fun z => h0 (by rw [q, r, z])
      show ((i : Int) == (j : Int)) = false
      rw [beq_eq_false_iff_ne]
      omega
  have e4 : isN 1000000000001 (.int x.r) = true := by
    show (decide (0 ≤ x.r) && decide (x.r < ((1000000000001 : Nat) : Int))) = true
    rw [decide_eq_true (by omega), decide_eq_true (by omega)]
    rfl
  show (if isEndB n (endD x.b) = false then _ else _) = _
  rw [e _ h1, e _ h2, e3, e4]
  rfl
theorem road_join {x : Road} : roadS x = Txt.join " " ["road", wordS x.b, wordS x.e, numS x.r.toNat] := by
  refine ext_tl ?_
  rw [tl_joinT]
  unfold roadS
  simp only [tl_append, List.append_assoc]
  rfl
theorem free32_word {o : Option Nat} : 32 ∉ tl (wordS o) := free_of_sg (p := fun c => decide (c ≠ 32)) (sg_word (fun c h1 h2 => decide_eq_true (by omega)) rfl) rfl
theorem cut_in {ds : List PD} {j k : Nat} : Uv.cutD ds (some (j : Int)) (some (k : Int)) = (ds.take k).drop j := by
  unfold Uv.cutD
  rw [HT.sIx_nat, HT.sIx_nat, List.drop_take]
  by_cases c : j ≤ ds.length
  · rw [Nat.min_eq_left c]
    by_cases e : k ≤ ds.length
    · rw [Nat.min_eq_left e]
    · rw [Nat.min_eq_right (by omega), List.take_of_length_le (by simp), List.take_of_length_le (by simp; omega)]
  · have e1 : min j ds.length = ds.length := by omega
    rw [e1, List.drop_eq_nil_of_le (Nat.le_refl _), List.drop_eq_nil_of_le (by omega), List.take_nil, List.take_nil]
end
end Fn

namespace Fn
open PySem PySem.Spec PyProof.Rows L2 Uv TL
section
variable {n m : Nat} {l : List Nat} {a b y s x : Str} {W : Web} {f : List Int}
theorem text_join : textS W = Txt.join "\n" (linesS W ++ [("" : Str)]) := join_ends (s := "\n") _
theorem free10_lines : ∀ x ∈ linesS W, 10 ∉ tl x := fun x hx => by
  have key : Sg (fun c => decide (c ≠ 10)) x := by
    have dg : ∀ c, 48 ≤ c → c ≤ 57 → decide (c ≠ 10) = true := fun c h1 h2 => decide_eq_true (by omega)
    unfold linesS at hx
    rcases List.mem_cons.mp hx with rfl | hx
    · exact (sg_lit (by decide)).app (sg_num dg)
    · rcases List.mem_append.mp hx with hx | hx
      · obtain ⟨r, hr, rfl⟩ := List.mem_map.mp hx
        exact ((((sg_lit (by decide)).app (sg_word dg rfl)).app (sg_lit (by decide))).app (sg_word dg rfl)).app (sg_lit (by decide)) |>.app (sg_num dg)
      · rcases List.mem_append.mp hx with hx | hx
        · obtain ⟨l, hl, rfl⟩ := List.mem_map.mp hx
          exact ((sg_lit (by decide)).app (sg_lit (by decide))).app (sg_list dg rfl rfl)
        · obtain ⟨l, hl, rfl⟩ := List.mem_map.mp hx
          exact ((sg_lit (by decide)).app (sg_lit (by decide))).app (sg_list dg rfl rfl)
  exact free_of_sg key rfl
end
end Fn

namespace Fn
open PySem PySem.Spec PyProof.Rows L2 Uv TL
section
variable {n m : Nat} {l : List Nat} {a b y s x : Str} {W : Web} {f : List Int}
end
end Fn

namespace Fn
open PySem PySem.Spec PyProof.Rows L2 Uv TL
def sgO : PD → Option (List PD)
  | .str z => some (sgnD z)
  | _ => none
@[simp] theorem q_xiS {a : XE} {v : VE} : xiS a v = (a v).bind sgO := by
  show (a v).bind _ = _
  congr 1
@[simp] theorem q_sgO {z : Str} : sgO (.str z) = some (sgnD z) := (rfl)
def valS (w : Str) : Nat := NumText.digitsVal (tl w)
def wordN (w : Str) : Option Nat := if tl w = [] ∨ 13 < w.length ∨ ¬ (∀ c ∈ tl w, digB c = true) then none else if (tl w).head? = some 48 ∧ tl w ≠ [48] then none else some (valS w)
section
variable {n m : Nat} {l : List Nat} {a b y s x w : Str} {W : Web} {f : List Int}
theorem val_lt : ∀ (l : List Nat) (a : Nat), NumText.AllDigits l → l.foldl (fun acc c => acc * 10 + (c - 48)) a < (a + 1) * 10 ^ l.length
  | [], a, _ => by simp
  | c :: l, a, h => by
    have hc := h c (List.mem_cons_self ..)
    have := val_lt l (a * 10 + (c - 48)) fun d hd => h d (List.mem_cons_of_mem _ hd)
    rw [List.foldl_cons, List.length_cons, Nat.pow_succ]
    have h2 : a * 10 + (c - 48) + 1 ≤ (a + 1) * 10 := by omega
    have h3 := Nat.mul_le_mul_right (10 ^ l.length) h2
    have e : (a + 1) * 10 * 10 ^ l.length = (a + 1) * (10 ^ l.length * 10) := by rw [Nat.mul_assoc, Nat.mul_comm 10]
    omega
theorem all_of (h : ∀ c ∈ tl w, digB c = true) : NumText.AllDigits (tl w) := fun c hc => of_decide_eq_true (h c hc)
theorem valS_lt (h : ∀ c ∈ tl w, digB c = true) (hl : w.length ≤ 13) : valS w < 10 ^ 13 := by
  have := val_lt (tl w) 0 (all_of h)
  unfold valS NumText.digitsVal
  have h2 : (10 : Nat) ^ (tl w).length ≤ 10 ^ 13 := Nat.pow_le_pow_right (by decide) (by rw [← len_tl]; exact hl)
  omega
theorem wordN_lt {k : Nat} (h : wordN w = some k) : k < 10 ^ 13 := by
  unfold wordN at h
  by_cases c : tl w = [] ∨ 13 < w.length ∨ ¬ (∀ c ∈ tl w, digB c = true)
  · rw [if_pos c] at h; cases h
  · rw [if_neg c] at h
    have c1 : ¬ 13 < w.length := fun z => c (.inr (.inl z))
    have c2 : ∀ c ∈ tl w, digB c = true := Classical.not_not.mp fun z => c (.inr (.inr z))
    by_cases d : (tl w).head? = some 48 ∧ tl w ≠ [48]
    · rw [if_pos d] at h; cases h
    · rw [if_neg d] at h
      cases h
      exact valS_lt c2 (by omega)
theorem dig_not {c : Nat} (ha : c < 128) (h : digB c = false) : Unicode.isDigit c = false := by
  have : ∀ c, c < 128 → digB c = false → Unicode.isDigit c = false := by decide +kernel
  exact this c ha h
theorem isdig_all (h : ∀ c ∈ tl w, digB c = true) (hn : tl w ≠ []) : isdigT (.str w) = some (.bool true) := by
  show some (PyData.bool (Txt.isdigit w)) = _
  have h1 : Txt.isdigit w = (decide (w.length > 0) && w.cps.all Unicode.isDigit) := rfl
  have h2 : w.cps.all Unicode.isDigit = true := all_tl (p := Unicode.isDigit) fun c hc => dig_dig (h c hc)
  have : 0 < w.length := by rw [len_tl]; exact List.length_pos_iff.mpr hn
  rw [h1, h2, decide_eq_true this]
  rfl
theorem starts_head : startsT (.str w) (.str "0") = some (.bool (decide ((tl w).head? = some 48))) := by
  show some (PyData.bool (Txt.startswith w "0")) = _
  congr 2
  have hz : tl ("0" : Str) = [48] := by decide
  have e : Txt.startswith w "0" = (decide (0 + ("0" : Str).length ≤ w.length) && Builtin.Str.subAt w "0" 0) := rfl
  have ai := at_iff (x := w) (y := "0") (by rw [hz]; simp) 0
  have e2 : Txt.startswith w "0" = true ↔ pre (tl "0") ((tl w).drop 0) = true := by
    rw [e, Bool.and_eq_true, decide_eq_true_iff]
    exact ai
  rw [hz, List.drop_zero] at e2
  cases q : tl w with
  | nil =>
    rw [q] at e2
    have : pre [48] [] = false := by decide
    rw [this] at e2
    simp at e2
    rw [e2]
    rfl
  | cons c r =>
    rw [q] at e2
    by_cases z : c = 48
    · subst z
      have : pre [48] (48 :: r) = true := pre_self [48] r
      rw [e2.mpr this]
      rfl
    · have : pre [48] (c :: r) = false := pre_of_head [] r z
      rw [this] at e2
      have : Txt.startswith w "0" = false := by
        rw [Bool.eq_false_iff]
        exact fun t => Bool.false_ne_true (e2.mp t)
      rw [this]
      simp [z]
theorem int_any (h : ∀ c ∈ tl w, digB c = true) (hn : tl w ≠ []) (hl : w.length ≤ 13) : intT (.str w) = some (natD (valS w)) := by
  have e := intText_digits (x := w) (all_of h) hn (by omega)
  show (PySem.intText? w).bind _ = _
  rw [show PySem.intText? w = some ((valS w : Nat) : Int) from e, Option.bind_some, if_pos (by omega)]
theorem ne_strs (ha : Sg ascB a) (hb : Sg ascB b) : neP (.str a) (.str b) = some (.bool (!decide (a = b))) := by
  unfold neP
  rw [if_pos ⟨shp_strT (sg_asc ha), shp_strT (sg_asc hb)⟩]
  rfl
theorem eq_tl : a = b ↔ tl a = tl b := ⟨fun h => by rw [h], ext_tl⟩
theorem p_word (ha : Sg ascB w) (hl : w.length ≤ 1000000) : F_number_in [.str w] = some (endD (wordN w)) := by
  have g : lenT (.str w) = some (natD w.length) := if_pos (by omega)
  have gt : gtU (natD w.length) (.int 13) = some (.bool (decide (13 < w.length))) := by
    show some (PyData.bool (decide ((13 : Int) < (w.length : Int)))) = _
    congr 2
    simp
    omega
  have h0 : tl ("0" : Str) = [48] := by decide
  refine eq_of_wp ?_
  unfold F_number_in
  refine wp_runP rfl ?_
  unfold X_number_in
  by_cases hd : ∀ c ∈ tl w, digB c = true
  · by_cases hn : tl w = []
    · have i0 : isdigT (.str w) = some (.bool false) := by
        have : w = "" := ext_tl (by rw [hn]; decide)
        rw [this]
        rfl
      have e : wordN w = none := if_pos (.inl hn)
      simp -implicitDefEqProofs [isasc ha, i0, e]
      rfl
    · by_cases h13 : 13 < w.length
      · have e : wordN w = none := if_pos (.inr (.inl h13))
        rw [decide_eq_true h13] at gt
        simp -implicitDefEqProofs [isasc ha, isdig_all hd hn, g, gt, e]
        rfl
      · have c : ¬ (tl w = [] ∨ 13 < w.length ∨ ¬ (∀ c ∈ tl w, digB c = true)) := fun z => z.elim hn fun z => z.elim h13 fun z => z hd
        have i := int_any hd hn (by omega)
        rw [decide_eq_false h13] at gt
        have ne := ne_strs ha (b := "0") (sg_lit (by decide))
        have st := starts_head (w := w)
        by_cases z : (tl w).head? = some 48
        · by_cases z2 : tl w = [48]
          · have e : wordN w = some (valS w) := by
              unfold wordN
              rw [if_neg c, if_neg fun t => t.2 z2]
            rw [decide_eq_true z] at st
            rw [decide_eq_true (eq_tl.mpr (by rw [z2, h0]))] at ne
            simp -implicitDefEqProofs [isasc ha, isdig_all hd hn, g, gt, st, ne, i, e]
            rfl
          · have e : wordN w = none := by
              unfold wordN
              rw [if_neg c, if_pos ⟨z, z2⟩]
            rw [decide_eq_true z] at st
            rw [decide_eq_false fun t => z2 (by rw [← h0, ← t])] at ne
            simp -implicitDefEqProofs [isasc ha, isdig_all hd hn, g, gt, st, ne, e]
            rfl
        · have e : wordN w = some (valS w) := by
            unfold wordN
            rw [if_neg c, if_neg fun t => z t.1]
          rw [decide_eq_false z] at st
          simp -implicitDefEqProofs [isasc ha, isdig_all hd hn, g, gt, st, i, e]
          rfl
  · have e : wordN w = none := if_pos (.inr (.inr hd))
    obtain ⟨c, hc, nd⟩ : ∃ c ∈ tl w, digB c = false := by
      refine Classical.byContradiction fun z => hd fun c hc => ?_
      cases q : digB c with
      | true => rfl
      | false => exact absurd ⟨c, hc, q⟩ z
    have ca : c < 128 := of_decide_eq_true (ha c hc)
    simp -implicitDefEqProofs [isasc ha, isdig_no hc (dig_not ca nd), e]
    rfl
theorem lay_strs {l : List Nat} (h : ∀ c ∈ l, c < 128) : Lay 60 (.list (l.map fun c => PyData.str ⟨#[c]⟩)) := by
  refine Lay.lst (k := 59) fun d hd => ?_
  obtain ⟨c, hc, rfl⟩ := List.mem_map.mp hd
  have := h c hc
  refine ⟨?_, Nat.zero_le _⟩
  show PyData.canLay0 (.str ⟨#[c]⟩) = true
  have e : PyData.strOk ⟨#[c]⟩ = true := by
    show #[c].all _ = true
    simp
    omega
  simp [PyData.canLay0, e]
end
end Fn

namespace Fn
open PySem PySem.Spec PyProof.Rows L2 Uv TL
section
variable {n m : Nat} {l : List Nat} {a b y s x w : Str} {W : Web} {f : List Int}
theorem spl_in : ∀ (l acc : List Nat), (∀ p ∈ spl [32] 0 acc l, (∀ c ∈ p, c ∈ acc ∨ c ∈ l) ∧ p.length ≤ acc.length + l.length) ∧ (spl [32] 0 acc l).length ≤ l.length + 1
  | [], acc => by
    rw [spl_nil]
    exact ⟨fun p hp => by rw [List.mem_singleton.mp hp]; exact ⟨fun c hc => .inl hc, Nat.le_refl _⟩, Nat.le_refl _⟩
  | c :: r, acc => by
    by_cases z : c = 32
    · subst z
      have h : pre [32] (32 :: r) = true := pre_self [32] r
      rw [spl_hit h]
      have ih := spl_in r []
      refine ⟨fun p hp => ?_, ?_⟩
      · rcases List.mem_cons.mp hp with rfl | hp
        · exact ⟨fun c hc => .inl hc, by omega⟩
        · have := ih.1 p hp
          refine ⟨fun c hc => (this.1 c hc).elim (fun z => nomatch z) fun z => .inr (List.mem_cons_of_mem _ z), ?_⟩
          have := this.2
          simp at this ⊢
          omega
      · have := ih.2
        show (spl [32] 0 [] r).length + 1 ≤ r.length + 1 + 1
        omega
    · have h : pre [32] (c :: r) = false := pre_of_head [] r z
      rw [spl_miss h]
      have ih := spl_in r (acc ++ [c])
      refine ⟨fun p hp => ?_, ?_⟩
      · have := ih.1 p hp
        refine ⟨fun d hd => (this.1 d hd).elim (fun z => (List.mem_append.mp z).elim .inl fun z => .inr (by rw [List.mem_singleton.mp z]; exact List.mem_cons_self ..)) fun z => .inr (List.mem_cons_of_mem _ z), ?_⟩
        have := this.2
        simp at this ⊢
        omega
      · have := ih.2
        simp
        omega
theorem words_in (ha : Sg ascB x) : (∀ p ∈ Txt.split x " ", Sg ascB p ∧ p.length ≤ x.length) ∧ (Txt.split x " ").length ≤ x.length + 1 := by
  have e : (Txt.split x " ").map tl = spl [32] 0 [] (tl x) := split_spl x " " (by decide) (kind_ok (by decide +kernel))
  have h := spl_in (tl x) []
  refine ⟨fun p hp => ?_, ?_⟩
  · have := h.1 (tl p) (by rw [← e]; exact List.mem_map_of_mem hp)
    refine ⟨fun c hc => ha c ((this.1 c hc).elim (fun z => nomatch z) id), ?_⟩
    have := this.2
    rw [len_tl, len_tl]
    simpa using this
  · have := h.2
    rw [← e, List.length_map] at this
    rw [len_tl]
    exact this
end
end Fn

namespace Fn
open PySem PySem.Spec PyProof.Rows L2 Uv TL
section
variable {n m v : Nat} {l : List Nat} {a b y s x w : Str}
theorem canon : ∀ (k : Nat) (l : List Nat), l.length = k + 1 → NumText.AllDigits l → (l.head? = some 48 → l = [48]) → numL (NumText.digitsVal l) = l
  | k, l, hk, hd, h0 => by
    obtain ⟨r, c, rfl⟩ : ∃ r c, l = r ++ [c] := ⟨l.dropLast, l.getLast (by intro z; rw [z] at hk; cases hk), (List.dropLast_concat_getLast _).symm⟩
    have hc := hd c (List.mem_append_right _ (List.mem_singleton.mpr rfl))
    have e : NumText.digitsVal (r ++ [c]) = NumText.digitsVal r * 10 + (c - 48) := by
      unfold NumText.digitsVal
      rw [List.foldl_append]
      rfl
    cases r with
    | nil =>
      rw [e, show NumText.digitsVal [] = 0 from rfl, numL_lt (by omega)]
      show [48 + (0 * 10 + (c - 48))] = [c]
      congr 1
      omega
    | cons d r =>
      cases k with
      | zero => simp at hk
      | succ k =>
        have nd : d ≠ 48 := fun z => by
          have := h0 (by rw [z]; rfl)
          simp at this
        have ih := canon k (d :: r) (by simpa using hk) (fun x hx => hd x (List.mem_append_left _ hx)) (fun z => absurd (Option.some.inj z) nd)
        have pos : 1 ≤ NumText.digitsVal (d :: r) := by
          rcases Nat.eq_zero_or_pos (NumText.digitsVal (d :: r)) with z | z
          · rw [z, numL_lt (by decide)] at ih
            exact absurd (List.cons.inj ih).1.symm nd
          · exact z
        rw [e, numL_step (by omega)]
        have e1 : (NumText.digitsVal (d :: r) * 10 + (c - 48)) / 10 = NumText.digitsVal (d :: r) := by omega
        have e2 : 48 + (NumText.digitsVal (d :: r) * 10 + (c - 48)) % 10 = c := by omega
        rw [e1, e2, ih]
theorem num_val (h : wordN w = some v) : w = numS v := by
  unfold wordN at h
  by_cases c : tl w = [] ∨ 13 < w.length ∨ ¬ (∀ c ∈ tl w, digB c = true)
  · rw [if_pos c] at h; cases h
  · rw [if_neg c] at h
    have c0 : tl w ≠ [] := fun z => c (.inl z)
    have c2 : ∀ c ∈ tl w, digB c = true := Classical.not_not.mp fun z => c (.inr (.inr z))
    by_cases d : (tl w).head? = some 48 ∧ tl w ≠ [48]
    · rw [if_pos d] at h; cases h
    · rw [if_neg d] at h
      cases h
      refine ext_tl ?_
      rw [tl_numS]
      have : (tl w).length ≠ 0 := fun z => c0 (List.length_eq_zero_iff.mp z)
      exact (canon ((tl w).length - 1) (tl w) (by omega) (all_of c2) fun z => Classical.byContradiction fun z2 => d ⟨z, z2⟩).symm
theorem val_num (h : v < 10 ^ 13) : wordN (numS v) = some v := by
  have c : ¬ (tl (numS v) = [] ∨ 13 < (numS v).length ∨ ¬ (∀ c ∈ tl (numS v), digB c = true)) := by
    rintro (z | z | z)
    · rw [tl_numS] at z; exact numL_ne v z
    · have := len_numS h; omega
    · exact z dig_num
  have d : ¬ ((tl (numS v)).head? = some 48 ∧ tl (numS v) ≠ [48]) := fun ⟨z1, z2⟩ => by
    rw [tl_numS] at z1 z2
    rcases Nat.eq_zero_or_pos v with z | z
    · rw [z] at z2; exact z2 (by rw [numL_lt (by decide)])
    · obtain ⟨c, r, e1, e2⟩ := head_num v z
      rw [e1] at z1
      exact e2 (Option.some.inj z1)
  unfold wordN
  rw [if_neg c, if_neg d]
  unfold valS
  rw [tl_numS, numL_val]
def numM (m : Nat) (w : Str) : Option Nat := match wordN w with
  | some v => if v ≤ m then some v else none
  | none => none
theorem numM_none (h : wordN w = none) : numM m w = none := by unfold numM; rw [h]
theorem numM_gt (h : wordN w = some v) (k : m < v) : numM m w = none := by
  unfold numM; rw [h]; exact if_neg (by omega)
theorem numM_le (h : wordN w = some v) (k : ¬ m < v) : numM m w = some v := by
  unfold numM; rw [h]; exact if_pos (by omega)
theorem numM_eq (h : numM m w = some v) : w = numS v ∧ v ≤ m := by
  unfold numM at h
  cases e : wordN w with
  | none => rw [e] at h; cases h
  | some u =>
    rw [e] at h
    have h : (if u ≤ m then some u else none) = some v := h
    split at h
    · cases h; exact ⟨num_val e, by assumption⟩
    · cases h
theorem numM_of (h : v ≤ m) (hm : m < 10 ^ 13) : numM m (numS v) = some v := numM_le (val_num (by omega)) (by omega)
theorem l_numM {m : Nat} (ha : Sg ascB w) (hl : w.length ≤ 1000000) : F__law_number_in [.str w, natD m] = some (endD (numM m w)) := by
  have g : lenT (.str w) = some (natD w.length) := if_pos (by omega)
  have gt : gtU (natD w.length) (.int 13) = some (.bool (decide (13 < w.length))) := by
    show some (PyData.bool (decide ((13 : Int) < (w.length : Int)))) = _
    congr 2
    simp
    omega
  have h0 : tl ("0" : Str) = [48] := by decide
  have he : tl ("" : Str) = [] := by decide
  have ee := eq_strs ha (b := "") (sg_lit (by decide))
  have nl : neP (.list (((tl w).filter fun c => !digB c).map fun c => PyData.str ⟨#[c]⟩)) (.list []) = some (.bool (!((tl w).filter fun c => !digB c).isEmpty)) := by
    have l0 : Lay 60 (.list []) := Lay.lst (k := 59) fun d hd => nomatch hd
    rw [neP_lay (lay_strs fun c hc => of_decide_eq_true (ha c (List.mem_filter.mp hc).1)) l0]
    cases (tl w).filter fun c => !digB c <;> rfl
  have dc : ∀ c, c < 128 → decide (c ∈ tl ("0123456789" : Str)) = digB c := by decide +kernel
  refine eq_of_wp ?_
  unfold F__law_number_in
  refine wp_runP rfl ?_
  unfold X__law_number_in
  by_cases hn : tl w = []
  · have e : numM m w = none := numM_none (if_pos (.inl hn))
    rw [decide_eq_true (eq_tl.mpr (by rw [hn, he]))] at ee
    simp -implicitDefEqProofs [ee, e]
    rfl
  · rw [decide_eq_false fun t => hn (by rw [← he, ← t])] at ee
    by_cases h13 : 13 < w.length
    · have e : numM m w = none := numM_none (if_pos (.inr (.inl h13)))
      rw [decide_eq_true h13] at gt
      simp -implicitDefEqProofs [ee, g, gt, e]
      rfl
    · rw [decide_eq_false h13] at gt
      have sl : (sgnD w).length ≤ 40000 := by
        unfold sgnD
        rw [List.length_map, Array.length_toList]
        have : w.cps.size = w.length := rfl
        omega
      simp -implicitDefEqProofs [ee, g, gt]
      refine ⟨sl, wp_lc (enc := fun c => PyData.str ⟨#[c]⟩) (l := tl w) (fun c => !digB c) (fun c => .str ⟨#[c]⟩) (fun c hc => ?_) ?_⟩
      · have ca : c < 128 := of_decide_eq_true (ha c hc)
        have ni : notinS (.str ⟨#[c]⟩) (.str "0123456789") = some (.bool (!digB c)) := by
          rw [← dc c ca]
          rfl
        simp -implicitDefEqProofs [ni]
      by_cases hd : ∀ c ∈ tl w, digB c = true
      · have fe : (tl w).filter (fun c => !digB c) = [] := by
          rw [List.filter_eq_nil_iff]
          intro c hc
          rw [hd c hc]
          decide
        rw [fe] at nl ⊢
        have nl : neP (.list []) (.list []) = some (.bool false) := nl
        have c : ¬ (tl w = [] ∨ 13 < w.length ∨ ¬ (∀ c ∈ tl w, digB c = true)) := fun z => z.elim hn fun z => z.elim h13 fun z => z hd
        have i := int_any hd hn (by omega)
        have gm : gtU (natD (valS w)) (natD m) = some (.bool (decide (m < valS w))) := by
          show some (PyData.bool (decide ((m : Int) < (valS w : Int)))) = _
          congr 2
          simp
        obtain ⟨d, r, q⟩ := List.exists_cons_of_ne_nil hn
        have ix : ixT (.str w) (.int 0) = some (.str ⟨#[d]⟩) := by
          show (if w.length ≤ 16000000 then (L2.atI (tl w) 0).map fun c => PyData.str ⟨#[c]⟩ else none) = _
          rw [if_pos (by omega), q, show (0 : Int) = ((0 : Nat) : Int) from rfl, atI_at (show 0 < (d :: r).length by simp)]
          rfl
        have ad : Sg ascB (⟨#[d]⟩ : Str) := fun c hc => ha c (by rw [q]; have : c = d := List.mem_singleton.mp hc; rw [this]; exact List.mem_cons_self ..)
        have e1 := eq_strs ad (b := "0") (sg_lit (by decide))
        have e2 := ne_strs ha (b := "0") (sg_lit (by decide))
        have h1 : (tl w).head? = some d := by rw [q]; rfl
        by_cases z : d = 48
        · rw [decide_eq_true (eq_tl.mpr (by rw [h0, z]))] at e1
          by_cases z2 : tl w = [48]
          · have e : wordN w = some (valS w) := by
              unfold wordN
              rw [if_neg c, if_neg fun t => t.2 z2]
            rw [decide_eq_true (eq_tl.mpr (by rw [z2, h0]))] at e2
            by_cases mv : m < valS w
            · rw [decide_eq_true mv] at gm
              simp -implicitDefEqProofs [nl, ix, e1, e2, i, gm, numM_gt e mv]
              rfl
            · rw [decide_eq_false mv] at gm
              simp -implicitDefEqProofs [nl, ix, e1, e2, i, gm, numM_le e mv]
              rfl
          · have e : numM m w = none := numM_none (by
              unfold wordN
              rw [if_neg c, if_pos ⟨by rw [h1, z], z2⟩])
            rw [decide_eq_false fun t => z2 (by rw [← h0, ← t])] at e2
            simp -implicitDefEqProofs [nl, ix, e1, e2, e]
            rfl
        · have e : wordN w = some (valS w) := by
            unfold wordN
            rw [if_neg c, if_neg fun t => z (by have := t.1; rw [h1] at this; exact Option.some.inj this)]
          rw [decide_eq_false fun t => z (by have := eq_tl.mp t; rw [h0] at this; exact (List.cons.inj (show [d] = [48] from this)).1)] at e1
          by_cases mv : m < valS w
          · rw [decide_eq_true mv] at gm
            simp -implicitDefEqProofs [nl, ix, e1, i, gm, numM_gt e mv]
            rfl
          · rw [decide_eq_false mv] at gm
            simp -implicitDefEqProofs [nl, ix, e1, i, gm, numM_le e mv]
            rfl
      · have e : numM m w = none := numM_none (if_pos (.inr (.inr hd)))
        have ne : ((tl w).filter fun c => !digB c).isEmpty = false := by
          rw [Bool.eq_false_iff]
          intro z
          refine hd fun c hc => ?_
          rw [List.isEmpty_iff, List.filter_eq_nil_iff] at z
          have := z c hc
          simpa using this
        rw [ne] at nl
        simp -implicitDefEqProofs [nl, e]
        rfl
end
end Fn

namespace Fn
open PySem PySem.Spec PyProof.Rows L2 Uv TL
section
variable {n m v k : Nat} {l own : List Nat} {a b y s x w : Str} {r : Road} {o : Option Nat}
theorem bnd {α β : Type} {a : Option α} {f : α → Option β} {z : β} (h : a.bind f = some z) : ∃ x, a = some x ∧ f x = some z := by
  cases a with
  | none => cases h
  | some x => exact ⟨x, rfl, h⟩
theorem list_dash (hl : l ≠ []) : listS l ≠ "-" := fun z => by
  obtain ⟨x, r, rfl⟩ := List.exists_cons_of_ne_nil hl
  have el : listS (x :: r) = Txt.join "," ((x :: r).map numS) := if_neg hl
  have : tl (listS (x :: r)) = [45] := by rw [z]; decide
  rw [el, tl_joinT] at this
  obtain ⟨c, q, eq⟩ := List.exists_cons_of_ne_nil (numL_ne x)
  have cm : c ∈ numL x := by rw [eq]; exact List.mem_cons_self ..
  have hd := numL_digits x c cm
  have : c = 45 := by
    cases r with
    | nil =>
      have t : tl (numS x) = [45] := this
      rw [tl_numS, eq] at t
      exact (List.cons.inj t).1
    | cons y r =>
      have t : tl (numS x) ++ _ = [45] := this
      rw [tl_numS, eq] at t
      exact (List.cons.inj t).1
  omega
theorem split_of {c : Nat} {y : Str} {ps : List Str} (ey : tl y = [c]) (hc : c < 256) (hne : ps ≠ []) (hp : ∀ p ∈ ps, c ∉ tl p) : Txt.split (Txt.join y ps) y = ps :=
  split_join (s := c) (S := []) ey (by rw [← Array.all_toList]; show (tl y).all _ = true; rw [ey]; simp [hc]) hne hp
theorem join_of (x y : Str) : Txt.join y (Txt.split x y) = x := (join_eq y _).trans (StrLaws.join_split x y)
theorem hous_join : housS n = Txt.join " " ["houses", numS n] := by
  refine ext_tl ?_
  rw [tl_joinT]
  unfold housS
  simp only [tl_append, List.append_assoc]
  rfl
theorem split_hous : Txt.split (housS n) " " = ([("houses" : Str), numS n] : List Str) := by
  rw [hous_join]
  refine split_of (c := 32) (by decide) (by decide) (by simp) fun p hp => ?_
  rcases List.mem_cons.mp hp with rfl | hp
  · decide
  · rcases List.mem_cons.mp hp with rfl | hp
    · exact free_of_sg dig_num rfl
    · exact nomatch hp
def hofL (x : Str) : Option Nat := match Txt.split x " " with
  | [a, b] => if a = "houses" then (numM 8 b).bind fun h => if h = 0 then none else some h else none
  | _ => none
theorem hof_eq (h : hofL x = some n) : x = housS n ∧ 1 ≤ n ∧ n ≤ 8 := by
  unfold hofL at h
  split at h
  · rename_i a b e
    split at h
    · rename_i ea
      obtain ⟨k, h1, h⟩ := bnd h
      split at h
      · cases h
      · cases h
        obtain ⟨e2, e3⟩ := numM_eq h1
        refine ⟨?_, by omega, e3⟩
        rw [hous_join, ← ea, ← e2, ← e, join_of]
    · cases h
  · cases h
theorem hof_of (h1 : 1 ≤ n) (h8 : n ≤ 8) : hofL (housS n) = some n := by
  unfold hofL
  rw [split_hous]
  show (if ("houses" : Str) = "houses" then _ else _) = _
  rw [if_pos rfl, numM_of h8 (by decide)]
  exact if_neg (by omega)
theorem num_dash : numS k ≠ "-" := fun z => by
  have : tl (numS k) = [45] := by rw [z]; decide
  have hd := dig_num (n := k) 45 (by rw [this]; exact List.mem_singleton.mpr rfl)
  exact absurd hd (by decide)
def endIn (n : Nat) (w : Str) : Option (Option Nat) := if w = "-" then some none else (numM (n - 1) w).map some
theorem endIn_eq (h : endIn n w = some o) : w = wordS o ∧ ∀ h, o = some h → h ≤ n - 1 := by
  unfold endIn at h
  split at h
  · rename_i e; cases h; exact ⟨e, fun _ z => nomatch z⟩
  · obtain ⟨k, h1, rfl⟩ := Option.map_eq_some_iff.mp h
    obtain ⟨e1, e2⟩ := numM_eq h1
    exact ⟨e1, fun h z => by cases z; exact e2⟩
theorem endIn_of (h : ∀ h, o = some h → h ≤ n - 1) (hn : n ≤ 8) : endIn n (wordS o) = some o := by
  cases o with
  | none => exact if_pos rfl
  | some k =>
    unfold endIn
    rw [if_neg (show ¬ wordS (some k) = "-" from num_dash), show wordS (some k) = numS k from rfl, numM_of (h k rfl) (by omega)]
    rfl
def roadOf (n : Nat) (x : Str) : Option Road := match Txt.split x " " with
  | [a, b, c, d] => if a = "road" then (endIn n b).bind fun o1 => (endIn n c).bind fun o2 => (numM (10 ^ 12) d).bind fun r => if o1 = o2 then none else some ⟨o1, o2, (r : Int)⟩ else none
  | _ => none
theorem road_eq (h : roadOf n x = some r) (hn : 1 ≤ n) : x = roadS r ∧ OkRoad n r := by
  unfold roadOf at h
  split at h
  · rename_i a b c d e
    split at h
    · rename_i ea
      obtain ⟨o1, h1, h⟩ := bnd h
      obtain ⟨o2, h2, h⟩ := bnd h
      obtain ⟨q, h3, h⟩ := bnd h
      split at h
      · cases h
      · rename_i ne
        cases h
        obtain ⟨e1, l1⟩ := endIn_eq h1
        obtain ⟨e2, l2⟩ := endIn_eq h2
        obtain ⟨e3, l3⟩ := numM_eq h3
        refine ⟨?_, ne, fun h z => by have := l1 h z; omega, fun h z => by have := l2 h z; omega, by show (0 : Int) ≤ (q : Int); omega, by show (q : Int) ≤ _; omega⟩
        rw [road_join]
        show x = Txt.join " " ["road", wordS o1, wordS o2, numS ((q : Int)).toNat]
        rw [Int.toNat_natCast, ← e1, ← e2, ← e3, ← ea, ← e, join_of]
    · cases h
  · cases h
theorem split_roadS : Txt.split (roadS r) " " = ([("road" : Str), wordS r.b, wordS r.e, numS r.r.toNat] : List Str) := by
  rw [road_join]
  refine split_of (c := 32) (by decide) (by decide) (by simp) fun p hp => ?_
  rcases List.mem_cons.mp hp with rfl | hp
  · decide
  · rcases List.mem_cons.mp hp with rfl | hp
    · exact free32_word
    · rcases List.mem_cons.mp hp with rfl | hp
      · exact free32_word
      · rcases List.mem_cons.mp hp with rfl | hp
        · exact free_of_sg dig_num rfl
        · exact nomatch hp
theorem road_of (ok : OkRoad n r) (hn : n ≤ 8) : roadOf n (roadS r) = some r := by
  obtain ⟨h0, h1, h2, h3, h4⟩ := ok
  unfold roadOf
  rw [split_roadS]
  show (if ("road" : Str) = "road" then _ else _) = _
  rw [if_pos rfl, endIn_of (fun h z => by have := h1 h z; omega) hn, endIn_of (fun h z => by have := h2 h z; omega) hn, numM_of (by omega) (by decide)]
  show (if r.b = r.e then none else some (⟨r.b, r.e, (r.r.toNat : Int)⟩ : Road)) = _
  rw [if_neg h0, Int.toNat_of_nonneg h3]
def allN (f : Str → Option Nat) : List Str → Option (List Nat)
  | [] => some []
  | w :: ws => (f w).bind fun k => (allN f ws).map (k :: ·)
theorem allN_eq : ∀ {ws : List Str} {l : List Nat}, allN (numM m) ws = some l → ws = l.map numS ∧ ∀ k ∈ l, k ≤ m
  | [], l, h => by cases h; exact ⟨rfl, fun _ z => nomatch z⟩
  | w :: ws, l, h => by
    obtain ⟨k, h1, h⟩ := bnd (show (numM m w).bind _ = some l from h)
    obtain ⟨l', h2, rfl⟩ := Option.map_eq_some_iff.mp h
    obtain ⟨e1, e2⟩ := allN_eq h2
    obtain ⟨e3, e4⟩ := numM_eq h1
    refine ⟨by rw [List.map_cons, ← e3, ← e1], fun j hj => ?_⟩
    rcases List.mem_cons.mp hj with rfl | hj
    · exact e4
    · exact e2 j hj
theorem allN_of (hm : m < 10 ^ 13) : ∀ {l : List Nat}, (∀ k ∈ l, k ≤ m) → allN (numM m) (l.map numS) = some l
  | [], _ => rfl
  | k :: l, h => by
    show (numM m (numS k)).bind _ = _
    rw [numM_of (h k (List.mem_cons_self ..)) hm]
    show (allN (numM m) (l.map numS)).map (k :: ·) = _
    rw [allN_of hm fun j hj => h j (List.mem_cons_of_mem _ hj)]
    rfl
def listIn (m : Nat) (b : Str) : Option (List Nat) := if b = "-" then some [] else allN (numM m) (Txt.split b ",")
theorem listIn_eq (h : listIn m b = some l) : b = listS l ∧ ∀ k ∈ l, k ≤ m := by
  unfold listIn at h
  split at h
  · rename_i e; cases h; exact ⟨e, fun _ z => nomatch z⟩
  · rename_i nd
    obtain ⟨e1, e2⟩ := allN_eq h
    refine ⟨?_, e2⟩
    have jb := join_of b ","
    rw [e1] at jb
    by_cases c : l = []
    · subst c
      have l2 : ((Txt.split b ",").map tl).length = ([] : List (List Nat)).length := by rw [e1]; rfl
      have e := split_spl b "," (by decide) (kind_ok (by decide +kernel))
      rw [e] at l2
      exfalso
      have : ∀ (q acc : List Nat), (spl (tl ",") 0 acc q).length ≠ 0 := by
        intro q
        show ∀ acc, (spl [44] 0 acc q).length ≠ 0
        induction q with
        | nil => intro acc; exact Nat.one_ne_zero
        | cons d q ih =>
          intro acc
          unfold spl
          split
          · simp
          · exact ih _
      exact this _ _ l2
    · rw [← jb]
      exact (if_neg c).symm
theorem split_listS (hl : l ≠ []) : Txt.split (listS l) "," = l.map numS := by
  have el : listS l = Txt.join "," (l.map numS) := if_neg hl
  rw [el]
  refine split_of (c := 44) (by decide) (by decide) (by simpa using hl) fun p hp => ?_
  obtain ⟨k, hk, rfl⟩ := List.mem_map.mp hp
  exact free_of_sg dig_num rfl
theorem listIn_of (h : ∀ k ∈ l, k ≤ m) (hm : m < 10 ^ 13) : listIn m (listS l) = some l := by
  unfold listIn
  by_cases c : l = []
  · subst c; exact if_pos rfl
  · rw [if_neg (list_dash c), split_listS c, allN_of hm h]
end
end Fn

namespace Fn
open PySem PySem.Spec PyProof.Rows L2 Uv TL
def endCK (Q : PD × List Sl → Prop) : Out → Prop
  | .ret d ρ => wp (endC 1 3 d ρ) (tag Q)
  | .nxt ρ => wp (endC 1 3 .none ρ) (tag Q)
  | _ => False
@[simp] theorem endCK_ret {Q : PD × List Sl → Prop} {d : PD} {ρ : Uv.Env} : endCK Q (.ret d ρ) = wp (endC 1 3 d ρ) (tag Q) := (rfl)
theorem wp_runC {k : Nat} {X : XS} {ss : List Sl} {d : PD} {Q : PD × List Sl → Prop} (hs : ss.all isOwn = true) (h : wp (X (.dat d :: (ss ++ List.replicate k Sl.un))) (tag (endCK Q))) : wp (runC 3 1 k X ss [d]) (tag Q) := by
  obtain ⟨o, e, h⟩ := h
  unfold runC
  rw [if_pos ⟨rfl, hs⟩]
  rw [show ([d].map Sl.dat ++ (ss ++ List.replicate k Sl.un)) = .dat d :: (ss ++ List.replicate k Sl.un) from rfl, e]
  cases o with
  | ret d ρ => exact h
  | nxt ρ => exact h
  | _ => exact h.elim
section
variable {n m v k : Nat} {l own : List Nat} {a b y s x w : Str} {r : Road} {o : Option Nat}
theorem split_gen (hl : x.length ≤ 16000000) : splitT (.str x) (.str " ") = some (.list ((Txt.split x " ").map PyData.str)) := if_pos ⟨by decide, hl⟩
theorem split_ne (x : Str) {y : Str} {c : Nat} (ey : tl y = [c]) (hc : c < 256) : Txt.split x y ≠ [] := fun z => by
  have e : (Txt.split x y).map tl = spl (tl y) 0 [] (tl x) := split_spl x y (by rw [ey]; simp) (kind_ok (by rw [← Array.all_toList]; show (tl y).all _ = true; rw [ey]; simp [hc]))
  rw [z, ey] at e
  have : ∀ (q acc : List Nat), (spl [c] 0 acc q).length ≠ 0 := by
    intro q
    induction q with
    | nil => intro acc; exact Nat.one_ne_zero
    | cons d q ih =>
      intro acc
      unfold spl
      split
      · simp
      · exact ih _
  exact this (tl x) [] (by rw [← e]; rfl)
theorem atI_last {ws : List Str} (ne : ws ≠ []) : atI (ws.map PyData.str) (-1) = some (.str (ws.getLast ne)) := by
  have e := at_last (g := PyData.str) (l := ws.dropLast) (x := ws.getLast ne)
  rwa [List.dropLast_concat_getLast ne] at e
def eI : Option Nat → PD
  | none => .int (-1)
  | some k => natD k
def rdD (r : Road) : PD := .list [eI r.b, eI r.e]
def lsD (l : List Nat) : PD := .list (l.map natD)
def encS (n : Nat) (R : List Road) (O : List (List Nat)) : List Sl := [.own (dats [natD n]), .own (dats (R.map rdD)), .own (dats (O.map lsD))]
theorem l_line0 (ha : Sg ascB x) (hl : x.length ≤ 20000) : F__law_line_right_b (encS 0 [] []) [.str x] = some (match hofL x with | some h => (.bool true, encS h [] []) | none => (.bool false, encS 0 [] [])) := by
  obtain ⟨ws, hws⟩ : ∃ ws, ws = Txt.split x " " := ⟨_, rfl⟩
  have sp := split_gen (x := x) (by omega)
  have wi := words_in ha
  have ne : ws ≠ [] := by rw [hws]; exact split_ne x (c := 32) (by decide) (by decide)
  rw [← hws] at sp wi
  have la : atI (ws.map PyData.str) (-1) = some (.str (ws.getLast ne)) := atI_last ne
  have gl := wi.1 _ (List.getLast_mem ne)
  have nn : F__law_number_in [.str (ws.getLast ne), .int 8] = some (endD (numM 8 (ws.getLast ne))) := l_numM (m := 8) gl.1 (by omega)
  have z0 : eqP (natD 0) (.int 0) = some (.bool true) := rfl
  refine eq_of_wp ?_
  unfold F__law_line_right_b
  refine wp_runC rfl ?_
  unfold X__law_line_right_b encS
  by_cases c2 : ws.length = 2
  · obtain ⟨a, b, rfl⟩ : ∃ a b, ws = [a, b] := by
      match ws, c2 with
      | [a, b], _ => exact ⟨a, b, rfl⟩
    have eh : hofL x = if a = "houses" then (numM 8 b).bind fun h => if h = 0 then none else some h else none := by
      unfold hofL
      rw [← hws]
    have wa := wi.1 a (List.mem_cons_self ..)
    have e0 := ne_strs wa.1 (b := "houses") (sg_lit (by decide))
    have nn : F__law_number_in [.str b, .int 8] = some (endD (numM 8 b)) := nn
    have la : atI [PyData.str a, .str b] (-1) = some (.str b) := rfl
    by_cases ca : a = "houses"
    · rw [if_pos ca] at eh
      rw [decide_eq_true ca] at e0
      cases cn : numM 8 b with
      | none =>
        rw [cn] at nn eh
        rw [eh]
        simp -implicitDefEqProofs [sp, la, nn, e0]
        exact ⟨_, rfl, rfl⟩
      | some h =>
        rw [cn] at nn eh
        rw [eh]
        have z1 : eqP (endD (some h)) (.int 0) = some (.bool (decide (h = 0))) := by
          show some (PyData.bool ((h : Int) == 0)) = _
          congr 2
          rw [Bool.eq_iff_iff]
          simp
        by_cases ch : h = 0
        · rw [decide_eq_true ch] at z1
          subst ch
          simp -implicitDefEqProofs [sp, la, nn, e0, z1]
          exact ⟨_, rfl, rfl⟩
        · rw [decide_eq_false ch] at z1
          have d0 : datAt (dats [natD 0]) 0 = some (natD 0) := rfl
          have i10 : ixN 1 0 = some 0 := rfl
          simp -implicitDefEqProofs [sp, la, nn, e0, z1, ch, d0, i10]
          exact ⟨_, rfl, rfl⟩
    · rw [if_neg ca] at eh
      rw [decide_eq_false ca] at e0
      rw [eh]
      simp -implicitDefEqProofs [sp, la, nn, e0]
      exact ⟨_, rfl, rfl⟩
  · have eh : hofL x = none := by
      unfold hofL
      rw [← hws]
      match ws, c2 with
      | [], _ => rfl
      | [_], _ => rfl
      | [_, _], c => exact absurd rfl c
      | _ :: _ :: _ :: _, _ => rfl
    rw [eh]
    have n2 : ((ws.length : Int) == 2) = false := by
      rw [beq_eq_false_iff_ne]
      omega
    simp -implicitDefEqProofs [sp, la, nn, n2]
    exact ⟨_, rfl, rfl⟩
end
end Fn

namespace Fn
open PySem PySem.Spec PyProof.Rows L2 Uv TL
section
variable {n m v k : Nat} {l own : List Nat} {a b y s x w : Str} {r : Road} {o : Option Nat} {R : List Road} {O : List (List Nat)}
def pI : Option (Option Nat) → PD
  | some o => eI o
  | none => .none
def endP (n : Nat) (w : Str) : PD := pI (endIn n w)
theorem inN {p q : Option (Option Nat)} : inP .none (.list [pI p, pI q]) = some (.bool (p.isNone || q.isNone)) := by
  rcases p with _ | _ | i <;> rcases q with _ | _ | j <;> rfl
theorem flN {p q : Option (Option Nat)} : flats [pI p, pI q] = true := by
  rcases p with _ | _ | i <;> rcases q with _ | _ | j <;> rfl
theorem sub_1 (h : 1 ≤ n) : subP (natD n) (.int 1) = some (natD (n - 1)) := by
  show some (PyData.int ((n : Int) - 1)) = some (PyData.int ((n - 1 : Nat) : Int))
  rw [Int.natCast_sub h]
  rfl
theorem l_end (ha : Sg ascB w) (hl : w.length ≤ 1000000) (h1 : 1 ≤ n) : F__law_end_in [.str w, natD n] = some (endP n w) := by
  have e0 := eq_strs ha (b := "-") (sg_lit (by decide))
  have nm := l_numM (m := n - 1) ha hl
  have sb := sub_1 h1
  have ep : endP n w = if w = "-" then .int (-1) else endD (numM (n - 1) w) := by
    unfold endP endIn
    by_cases c : w = "-"
    · rw [if_pos c, if_pos c]; rfl
    · rw [if_neg c, if_neg c]
      cases numM (n - 1) w <;> rfl
  refine eq_of_wp ?_
  unfold F__law_end_in
  refine wp_runP rfl ?_
  unfold X__law_end_in
  by_cases c : w = "-"
  · rw [decide_eq_true c] at e0
    rw [ep, if_pos c]
    simp -implicitDefEqProofs [e0]
  · rw [decide_eq_false c] at e0
    rw [ep, if_neg c]
    simp -implicitDefEqProofs [e0, sb, nm]
theorem ne_ords : neP (.list (O.map lsD)) (.list []) = some (.bool (!O.isEmpty)) := by
  have l0 : Lay 60 (.list []) := Lay.lst (k := 59) fun d hd => nomatch hd
  have l1 : Lay 60 (.list (O.map lsD)) := (Lay.lst (k := 1) (Lay.map fun _ => Lay.natsL)).mono (by decide)
  rw [neP_lay l1 l0]
  cases O <;> rfl
theorem lay_eI {k : Nat} : Lay k (eI o) := by cases o <;> exact Lay.int
theorem eq_rds : eqP (.list (R.map rdD)) (.list []) = some (.bool R.isEmpty) := by
  have l0 : Lay 60 (.list []) := Lay.lst (k := 59) fun d hd => nomatch hd
  have l1 : Lay 60 (.list (R.map rdD)) := (Lay.lst (k := 1) (Lay.map fun r => Lay.lst (k := 0) fun d hd => by
    rcases List.mem_cons.mp hd with rfl | hd
    · exact lay_eI
    · rcases List.mem_cons.mp hd with rfl | hd
      · exact lay_eI
      · exact nomatch hd)).mono (by decide)
  rw [eqP_lay l1 l0]
  cases R <;> rfl
theorem eI_eq {p q : Option Nat} : eqP (eI p) (eI q) = some (.bool (decide (p = q))) := by
  cases p with
  | none =>
    cases q with
    | none => rfl
    | some j =>
      show some (PyData.bool ((-1 : Int) == (j : Int))) = _
      rw [beq_eq_false_iff_ne.mpr (by omega), decide_eq_false (by simp)]
  | some i =>
    cases q with
    | none =>
      show some (PyData.bool ((i : Int) == (-1 : Int))) = _
      rw [beq_eq_false_iff_ne.mpr (by omega), decide_eq_false (by simp)]
    | some j =>
      show some (PyData.bool ((i : Int) == (j : Int))) = _
      congr 2
      rw [Bool.eq_iff_iff]
      simp
      omega
theorem at_0 {α : Type} {d : α} {l : List α} : atI (d :: l) 0 = some d := atI_at (xs := d :: l) (k := 0) (Nat.succ_pos _)
theorem l_lineR {ws : List Str} (hws : Txt.split x " " = ("road" : Str) :: ws) (ha : Sg ascB x) (hl : x.length ≤ 20000) (h1 : 1 ≤ n) (hR : R.length ≤ 20) :
    F__law_line_right_b (encS n R O) [.str x] = some (match (if O = [] ∧ R.length ≠ 20 then roadOf n x else none) with | some r => (.bool true, encS n (R ++ [r]) O) | none => (.bool false, encS n R O)) := by
  have sp := split_gen (x := x) (by omega)
  have wi := words_in ha
  rw [hws] at sp wi
  have e0 : eqP (.str "road") (.str "road") = some (.bool true) := by
    have := eq_strs (a := "road") (b := "road") (sg_lit (by decide)) (sg_lit (by decide))
    rwa [decide_eq_true rfl] at this
  have z0 : eqP (natD n) (.int 0) = some (.bool false) := by
    show some (PyData.bool ((n : Int) == 0)) = _
    rw [beq_eq_false_iff_ne.mpr (by omega)]
  have no := ne_ords (O := O)
  have n00 : neP (.list []) (.list []) = some (.bool false) := ne_ords (O := [])
  refine eq_of_wp ?_
  unfold F__law_line_right_b
  refine wp_runC rfl ?_
  unfold X__law_line_right_b encS
  have a0 : ∀ l : List PD, atI (PyData.str "road" :: l) 0 = some (.str "road") := fun _ => at_0
  have d0 : atI [natD n] 0 = some (natD n) := rfl
  by_cases c4 : ws.length = 3
  · obtain ⟨a, b, c, rfl⟩ : ∃ a b c, ws = [a, b, c] := by
      match ws, c4 with
      | [a, b, c], _ => exact ⟨a, b, c, rfl⟩
    by_cases cO : O = []
    · subst cO
      by_cases c20 : R.length = 20
      · rw [if_neg (by intro z; exact z.2 c20)]
        have n20 : ((R.length : Int) == 20) = true := by rw [c20]; rfl
        simp -implicitDefEqProofs [sp, e0, z0, a0, d0, n20, n00]
        exact ⟨_, rfl, rfl⟩
      · rw [if_pos ⟨rfl, c20⟩]
        have n20 : ((R.length : Int) == 20) = false := by rw [beq_eq_false_iff_ne]; omega
        have ct : Uv.cutD [PyData.str "road", .str a, .str b, .str c] (some 1) (some 3) = [.str a, .str b] := by
          have := cut_in (ds := [PyData.str "road", .str a, .str b, .str c]) (j := 1) (k := 3)
          exact this
        have wa := wi.1 a (by simp)
        have wb := wi.1 b (by simp)
        have wc := wi.1 c (by simp)
        have le : ∀ w ∈ [a, b], F__law_end_in [.str w, natD n] = some (endP n w) := fun w hw => by
          have := wi.1 w (by
            rcases List.mem_cons.mp hw with rfl | hw
            · simp
            · rcases List.mem_cons.mp hw with rfl | hw
              · simp
              · exact nomatch hw)
          exact l_end this.1 (by omega) h1
        simp -implicitDefEqProofs [sp, e0, z0, a0, d0, n20, n00, ct]
        refine wp_lcT (enc := PyData.str) (l := [a, b]) (endP n) (fun w hw => ?_) ?_
        · simp -implicitDefEqProofs [le w hw, d0]
        have ee : List.map (endP n) [a, b] = [pI (endIn n a), pI (endIn n b)] := rfl
        have nc : F__law_number_in [.str c, .int 1000000000000] = some (endD (numM (10 ^ 12) c)) := l_numM (m := 10 ^ 12) wc.1 (by omega)
        rw [ee]
        have a3 : atI [PyData.str "road", .str a, .str b, .str c] 3 = some (.str c) := rfl
        have er : roadOf n x = (endIn n a).bind fun o1 => (endIn n b).bind fun o2 => (numM (10 ^ 12) c).bind fun r => if o1 = o2 then none else some ⟨o1, o2, (r : Int)⟩ := by
          unfold roadOf
          rw [hws]
          exact if_pos rfl
        rw [er]
        cases hA : endIn n a with
        | none => 
          have i0 := inN (p := none) (q := endIn n b)
          have f0 := flN (p := none) (q := endIn n b)
          simp -implicitDefEqProofs [sp, e0, z0, a0, d0, n20, n00, i0, f0]
          exact ⟨_, rfl, rfl⟩
        | some o1 =>
          cases hB : endIn n b with
          | none =>
            have i0 := inN (p := some o1) (q := none)
            have f0 := flN (p := some o1) (q := none)
            simp -implicitDefEqProofs [sp, e0, z0, a0, d0, n20, n00, i0, f0]
            exact ⟨_, rfl, rfl⟩
          | some o2 =>
            have i0 := inN (p := some o1) (q := some o2)
            have f0 := flN (p := some o1) (q := some o2)
            have x0 : atI [pI (some o1), pI (some o2)] 0 = some (eI o1) := rfl
            have x1 : atI [pI (some o1), pI (some o2)] 1 = some (eI o2) := rfl
            have q0 := eI_eq (p := o1) (q := o2)
            by_cases c12 : o1 = o2
            · rw [decide_eq_true c12] at q0
              have em : ((some o1).bind fun o1 => (some o2).bind fun o2 => (numM (10 ^ 12) c).bind fun r => if o1 = o2 then none else some (⟨o1, o2, (r : Int)⟩ : Road)) = none := by
                show ((numM (10 ^ 12) c).bind fun r => if o1 = o2 then none else some (⟨o1, o2, (r : Int)⟩ : Road)) = none
                cases numM (10 ^ 12) c with
                | none => rfl
                | some q => exact if_pos c12
              rw [em]
              simp -implicitDefEqProofs [sp, e0, z0, a0, d0, n20, n00, i0, f0, x0, x1, q0]
              exact ⟨_, rfl, rfl⟩
            · rw [decide_eq_false c12] at q0
              cases hC : numM (10 ^ 12) c with
              | none =>
                rw [hC] at nc
                simp -implicitDefEqProofs [sp, e0, z0, a0, d0, n20, n00, i0, f0, x0, x1, q0, a3, nc]
                exact ⟨_, rfl, rfl⟩
              | some v =>
                rw [hC] at nc
                have em : ((some o1).bind fun o1 => (some o2).bind fun o2 => (some v).bind fun r => if o1 = o2 then none else some (⟨o1, o2, (r : Int)⟩ : Road)) = some ⟨o1, o2, (v : Int)⟩ := if_neg c12
                rw [em]
                simp -implicitDefEqProofs [sp, e0, z0, a0, d0, n20, n00, i0, f0, x0, x1, q0, a3, nc]
                exact ⟨by omega, _, rfl, rfl⟩
    · rw [if_neg (by intro z; exact cO z.1)]
      have nO : O.isEmpty = false := by cases O with | nil => exact absurd rfl cO | cons _ _ => rfl
      rw [nO] at no
      simp -implicitDefEqProofs [sp, e0, z0, a0, d0, no]
      exact ⟨_, rfl, rfl⟩
  · have er : (if O = [] ∧ R.length ≠ 20 then roadOf n x else none) = none := by
      split
      · unfold roadOf
        rw [hws]
        match ws, c4 with
        | [], _ => rfl
        | [_], _ => rfl
        | [_, _], _ => rfl
        | [_, _, _], c => exact absurd rfl c
        | _ :: _ :: _ :: _ :: _, _ => rfl
      · rfl
    rw [er]
    have n4 : ((ws.length : Int) + 1 == 4) = false := by rw [beq_eq_false_iff_ne]; omega
    simp -implicitDefEqProofs [sp, e0, z0, a0, d0, n4]
    exact ⟨_, rfl, rfl⟩
end
end Fn

namespace Fn
open PySem PySem.Spec PyProof.Rows L2 Uv TL
section
variable {n m v k : Nat} {l own : List Nat} {a b y s x w : Str} {r : Road} {o : Option Nat} {R : List Road} {O : List (List Nat)}
def ordOf (own : List Nat) (w x : Str) : Option (List Nat) := match Txt.split x " " with
  | [a, b] => if a = w then (listIn 19 b).bind fun l => if l.Perm own then some l else none else none
  | _ => none
def wordO (d : Nat) : Str := if d = 0 then "give" else "take"
theorem ord_eq (h : ordOf own w x = some l) : x = ordS w l ∧ l.Perm own := by
  unfold ordOf at h
  split at h
  · rename_i a b e
    split at h
    · rename_i ea
      obtain ⟨q, h1, h⟩ := bnd h
      split at h
      · rename_i p
        cases h
        obtain ⟨e1, _⟩ := listIn_eq h1
        refine ⟨?_, p⟩
        rw [ord_join, ← ea, ← e1, ← e, join_of]
      · cases h
    · cases h
  · cases h
theorem split_ordS (hf : 32 ∉ tl w) : Txt.split (ordS w l) " " = ([w, listS l] : List Str) := by
  rw [ord_join]
  refine split_of (c := 32) (by decide) (by decide) (by simp) fun p hp => ?_
  rcases List.mem_cons.mp hp with rfl | hp
  · exact hf
  · rcases List.mem_cons.mp hp with rfl | hp
    · exact free_of_sg (p := fun c => decide (c ≠ 32)) (sg_list (fun c h1 h2 => decide_eq_true (by omega)) rfl rfl) rfl
    · exact nomatch hp
theorem ord_of (p : l.Perm own) (h : ∀ k ∈ own, k ≤ 19) (hf : 32 ∉ tl w) : ordOf own w (ordS w l) = some l := by
  unfold ordOf
  rw [split_ordS hf]
  show (if w = w then _ else _) = _
  rw [if_pos rfl, listIn_of (fun k hk => h k (p.mem_iff.mp hk)) (by decide)]
  exact if_pos p
theorem lay_I {ns : List Int} : Lay 60 (.list (ns.map PyData.int)) := (Lay.lst (k := 0) (Lay.map fun _ => Lay.int)).mono (by decide)
theorem ne_sort (hs : own.Pairwise (· < ·)) : neP (.list ((sortI (l.map fun (n : Nat) => (n : Int))).map PyData.int)) (.list (own.map natD)) = some (.bool (!decide (l.Perm own))) := by
  have eo : own.map natD = (own.map fun (n : Nat) => (n : Int)).map PyData.int := by rw [List.map_map]; rfl
  rw [eo, neP_lay lay_I lay_I]
  show some (PyData.bool (!PyData.eqvAll _ _)) = _
  rw [eqv_ints]
  congr 2
  by_cases p : l.Perm own
  · rw [decide_eq_true p, sort_perm p hs]
    simp
  · rw [decide_eq_false p]
    have : (sortI (l.map fun (n : Nat) => (n : Int)) == own.map fun (n : Nat) => (n : Int)) = false := by
      rw [beq_eq_false_iff_ne]
      intro z
      have q := (@sortI_perm kk0 (l.map fun (n : Nat) => (n : Int))).symm
      rw [z] at q
      have q := q.map Int.toNat
      rw [List.map_map, List.map_map] at q
      have e : ∀ l : List Nat, l.map (Int.toNat ∘ fun (n : Nat) => (n : Int)) = l := fun l => by
        conv => rhs; rw [← List.map_id l]
        exact List.map_congr_left fun n _ => by simp
      rw [e, e] at q
      exact p q
    rw [this]
theorem sort_L : sortP (.list (l.map natD)) = some (.list ((sortI (l.map fun (n : Nat) => (n : Int))).map PyData.int)) := by
  unfold sortP
  simp only [unI_nats, Option.bind_some]
theorem allN_map {ws : List Str} : allN (numM m) ws = (if (ws.map (numM m)).contains none = true then none else some ((ws.map (numM m)).map (·.getD 0))) := by
  induction ws with
  | nil => rfl
  | cons w ws ih =>
    show (numM m w).bind _ = _
    cases e : numM m w with
    | none => simp [e]
    | some k =>
      show (allN (numM m) ws).map (k :: ·) = _
      rw [ih]
      by_cases c : (ws.map (numM m)).contains none = true
      · rw [if_pos c]
        have : (((w :: ws).map (numM m)).contains none) = true := by
          rw [List.map_cons, List.contains_cons, c, Bool.or_true]
        rw [if_pos this]
        rfl
      · rw [if_neg c]
        have : ¬ (((w :: ws).map (numM m)).contains none) = true := by
          rw [List.map_cons, List.contains_cons, e]
          simpa using c
        rw [if_neg this, List.map_cons, e]
        rfl
def osIn (b : Str) : List (Option Nat) := if b = "-" then [] else (Txt.split b ",").map (numM 19)
theorem listIn_os : listIn 19 b = if (osIn b).contains none = true then none else some ((osIn b).map (·.getD 0)) := by
  unfold listIn osIn
  by_cases c : b = "-"
  · rw [if_pos c, if_pos c]; rfl
  · rw [if_neg c, if_neg c, allN_map]
theorem os_some {os : List (Option Nat)} (h : os.contains none = false) : os.map endD = (os.map (·.getD 0)).map natD := by
  rw [List.map_map]
  refine List.map_congr_left fun o ho => ?_
  cases o with
  | none =>
    have : os.contains none = true := List.contains_iff_mem.mpr ho
    rw [h] at this
    cases this
  | some k => rfl
theorem eI_b {h : Nat} : eqP (eI o) (natD h) = some (.bool (o == some h)) := by
  have := eI_eq (p := o) (q := some h)
  rw [show natD h = eI (some h) from rfl, this]
  congr 2
  rw [Bool.eq_iff_iff]
  simp
theorem neW {d : Nat} (ha : Sg ascB a) : neP (.str a) (.str (wordO d)) = some (.bool (!decide (a = wordO d))) := ne_strs ha (by unfold wordO; split <;> exact sg_lit (by decide))
theorem spl_any {q : Nat} : ∀ (l acc : List Nat), (∀ p ∈ spl [q] 0 acc l, (∀ c ∈ p, c ∈ acc ∨ c ∈ l) ∧ p.length ≤ acc.length + l.length) ∧ (spl [q] 0 acc l).length ≤ l.length + 1
  | [], acc => by
    rw [spl_nil]
    exact ⟨fun p hp => by rw [List.mem_singleton.mp hp]; exact ⟨fun c hc => .inl hc, Nat.le_refl _⟩, Nat.le_refl _⟩
  | c :: r, acc => by
    by_cases z : c = q
    · have h : pre [q] (c :: r) = true := by rw [z]; exact pre_self [q] r
      rw [spl_hit h]
      have ih := spl_any (q := q) r []
      refine ⟨fun p hp => ?_, ?_⟩
      · rcases List.mem_cons.mp hp with rfl | hp
        · exact ⟨fun c hc => .inl hc, by omega⟩
        · have := ih.1 p hp
          refine ⟨fun c hc => (this.1 c hc).elim (fun z => nomatch z) fun z => .inr (List.mem_cons_of_mem _ z), ?_⟩
          have := this.2
          simp at this ⊢
          omega
      · have := ih.2
        show (spl [q] 0 [] r).length + 1 ≤ r.length + 1 + 1
        omega
    · have h : pre [q] (c :: r) = false := pre_of_head [] r z
      rw [spl_miss h]
      have ih := spl_any (q := q) r (acc ++ [c])
      refine ⟨fun p hp => ?_, ?_⟩
      · have := ih.1 p hp
        refine ⟨fun d hd => (this.1 d hd).elim (fun z => (List.mem_append.mp z).elim .inl fun z => .inr (by rw [List.mem_singleton.mp z]; exact List.mem_cons_self ..)) fun z => .inr (List.mem_cons_of_mem _ z), ?_⟩
        have := this.2
        simp at this ⊢
        omega
      · have := ih.2
        simp
        omega
theorem parts_in {y : Str} {c : Nat} (ey : tl y = [c]) (hc : c < 256) (ha : Sg ascB x) : (∀ p ∈ Txt.split x y, Sg ascB p ∧ p.length ≤ x.length) ∧ (Txt.split x y).length ≤ x.length + 1 := by
  have e : (Txt.split x y).map tl = spl (tl y) 0 [] (tl x) := split_spl x y (by rw [ey]; simp) (kind_ok (by rw [← Array.all_toList]; show (tl y).all _ = true; rw [ey]; simp [hc]))
  rw [ey] at e
  have h := spl_any (q := c) (tl x) []
  refine ⟨fun p hp => ?_, ?_⟩
  · have := h.1 (tl p) (by rw [← e]; exact List.mem_map_of_mem hp)
    refine ⟨fun c hc => ha c ((this.1 c hc).elim (fun z => nomatch z) id), ?_⟩
    have := this.2
    rw [len_tl, len_tl]
    simpa using this
  · have := h.2
    rw [← e, List.length_map] at this
    rw [len_tl]
    exact this
theorem commas_in (ha : Sg ascB x) : (∀ p ∈ Txt.split x ",", Sg ascB p ∧ p.length ≤ x.length) ∧ (Txt.split x ",").length ≤ x.length + 1 := parts_in (c := 44) (by decide) (by decide) ha
theorem l_lineO {ws : List Str} (hws : Txt.split x " " = a :: ws) (hr : a ≠ "road") (ha : Sg ascB x) (hl : x.length ≤ 20000) (h1 : 1 ≤ n) (h8 : n ≤ 8) (hR : R.length ≤ 20) (hO : O.length ≤ 2 * n) :
    F__law_line_right_b (encS n R O) [.str x] = some (match (if R = [] ∨ O.length = 2 * n then none else ordOf (atR R (O.length / n) (O.length % n)) (wordO (O.length / n)) x) with | some l => (.bool true, encS n R (O ++ [l])) | none => (.bool false, encS n R O)) := by
  have sp := split_gen (x := x) (by omega)
  have wi := words_in ha
  rw [hws] at sp wi
  have wa := wi.1 a (List.mem_cons_self ..)
  have e0 := eq_strs wa.1 (b := "road") (sg_lit (by decide))
  rw [decide_eq_false hr] at e0
  have z0 : eqP (natD n) (.int 0) = some (.bool false) := by
    show some (PyData.bool ((n : Int) == 0)) = _
    rw [beq_eq_false_iff_ne.mpr (by omega)]
  have a0 : ∀ l : List PD, atI (PyData.str a :: l) 0 = some (.str a) := fun _ => at_0
  have d0 : atI [natD n] 0 = some (natD n) := rfl
  have er := eq_rds (R := R)
  refine eq_of_wp ?_
  unfold F__law_line_right_b
  refine wp_runC rfl ?_
  unfold X__law_line_right_b encS
  by_cases cR : R = []
  · rw [if_pos (.inl cR)]
    subst cR
    have er : eqP (.list []) (.list []) = some (.bool true) := er
    simp -implicitDefEqProofs [sp, e0, z0, a0, d0, er]
    exact ⟨_, rfl, rfl⟩
  have rE : R.isEmpty = false := by cases R with | nil => exact absurd rfl cR | cons _ _ => rfl
  rw [rE] at er
  by_cases cO : O.length = 2 * n
  · rw [if_pos (.inr cO)]
    have eo : eqP (natD O.length) (.int (2 * (n : Int))) = some (.bool true) := by
      rw [cO]
      show some (PyData.bool (((2 * n : Nat) : Int) == 2 * (n : Int))) = _
      rw [beq_iff_eq.mpr (by omega)]
    simp -implicitDefEqProofs [sp, e0, z0, a0, d0, er, eo]
    exact ⟨_, rfl, rfl⟩
  have eo : ((O.length : Int) == 2 * (n : Int)) = false := by
    rw [beq_eq_false_iff_ne]; omega
  rw [if_neg (by rintro (z | z); exact cR z; exact cO z)]
  by_cases c2 : ws.length = 1
  · obtain ⟨b, rfl⟩ : ∃ b, ws = [b] := by
      match ws, c2 with
      | [b], _ => exact ⟨b, rfl⟩
    obtain ⟨d, hd⟩ : ∃ d, d = O.length / n := ⟨_, rfl⟩
    obtain ⟨h, hh⟩ : ∃ h, h = O.length % n := ⟨_, rfl⟩
    have d2 : d < 2 := by rw [hd]; exact Nat.div_lt_of_lt_mul (by omega)
    have dv : divP (natD O.length) (natD n) = some (natD d) := by
      rw [hd]
      show (if (0 : Int) < n ∧ (n : Int) < 2 ^ 64 then some (PyData.int ((O.length : Int) / n)) else none) = _
      rw [if_pos ⟨by omega, by omega⟩]
      rfl
    have mv : modP (natD O.length) (natD n) = some (natD h) := by
      rw [hh]
      show (if (0 : Int) < n then some (PyData.int ((O.length : Int) % n)) else none) = _
      rw [if_pos (by omega)]
      rfl
    rw [← hd, ← hh]
    have wb := wi.1 b (by simp)
    have a1 : ∀ l : List PD, atI [PyData.str a, .str b] 1 = some (.str b) := fun _ => rfl
    have eb := eq_strs wb.1 (b := "-") (sg_lit (by decide))
    have ix : atI [PyData.str "give", .str "take"] (d : Int) = some (.str (wordO d)) := by
      have : d = 0 ∨ d = 1 := by omega
      rcases this with rfl | rfl <;> rfl
    have nw := neW (d := d) wa.1
    have eC : ∀ w, Sg ascB w → w.length ≤ 20000 → splitT (.str w) (.str ",") = some (.list ((Txt.split w ",").map PyData.str)) := fun w _ hw => if_pos ⟨by decide, by omega⟩
    have wl := commas_in wb.1
    have l19 : ∀ w ∈ Txt.split b ",", F__law_number_in [.str w, .int 19] = some (endD (numM 19 w)) := fun w hw => l_numM (m := 19) (wl.1 w hw).1 (by have := (wl.1 w hw).2; omega)
    have sb := eC b wb.1 (by omega)
    obtain ⟨os, hos⟩ : ∃ os, os = osIn b := ⟨_, rfl⟩
    have eord : ordOf (atR R d h) (wordO d) x = if a = wordO d then (if os.contains none = true then none else if (os.map (·.getD 0)).Perm (atR R d h) then some (os.map (·.getD 0)) else none) else none := by
      unfold ordOf
      rw [hws]
      show (if a = wordO d then (listIn 19 b).bind _ else none) = _
      rw [listIn_os, ← hos]
      split
      · split <;> rfl
      · rfl
    rw [eord]
    have inE : inP .none (.list (os.map endD)) = some (.bool (os.contains none)) := in_endL (o := none)
    by_cases cb : b = "-"
    · rw [decide_eq_true cb] at eb
      have eos : os = [] := by rw [hos]; exact if_pos cb
      subst eos
      have inE : inP .none (.list []) = some (.bool false) := inE
      by_cases ca : a = wordO d
      · rw [decide_eq_true ca] at nw
        rw [if_pos ca]
        have sl : sortP (.list []) = some (.list ((sortI (([] : List Nat).map fun (n : Nat) => (n : Int))).map PyData.int)) := sort_L (l := [])
        have ns := ne_sort (l := []) (atR_sorted R d h)
        obtain ⟨Z, hZ⟩ : ∃ Z : PD, Z = .list ((sortI (([] : List Nat).map fun (n : Nat) => (n : Int))).map PyData.int) := ⟨_, rfl⟩
        rw [← hZ] at sl ns
        simp -implicitDefEqProofs [sp, e0, z0, a0, d0, er, eo, dv, mv, a1, eb, ix, nw, sb, inE, sl]
        refine ⟨in62_nat (by omega), by omega, wp_lc (enc := natD) (isAt R d h) natD (fun k hk => ?_) ?_⟩
        · have hk := List.mem_range.mp hk
          have g : atI (R.map rdD) (k : Int) = some (rdD R[k]) := atI_map hk
          have sd : atI [eI R[k].b, eI R[k].e] (d : Int) = some (eI (side d R[k])) := by
            have : d = 0 ∨ d = 1 := by omega
            rcases this with rfl | rfl <;> rfl
          have eb := eI_b (o := side d R[k]) (h := h)
          have ia : isAt R d h k = (side d R[k] == some h) := by
            unfold isAt
            rw [List.getElem?_eq_getElem hk]
          have rd : rdD R[k] = .list [eI R[k].b, eI R[k].e] := rfl
          rw [ia]
          simp -implicitDefEqProofs [g, rd, sd, eb]
        · rw [filter_atR]
          by_cases p : ([] : List Nat).Perm (atR R d h)
          · rw [decide_eq_true p] at ns
            have q : atR R d h = [] := (List.nil_perm.mp p)
            rw [q, List.map_nil] at ns
            simp -implicitDefEqProofs [ns, q]
            exact ⟨by omega, _, rfl, rfl⟩
          · rw [decide_eq_false p] at ns
            have q : ¬ atR R d h = [] := fun z => p (by rw [z])
            simp -implicitDefEqProofs [ns, q]
            exact ⟨_, rfl, rfl⟩
      · rw [decide_eq_false ca] at nw
        rw [if_neg ca]
        simp -implicitDefEqProofs [sp, e0, z0, a0, d0, er, eo, dv, mv, a1, eb, ix, nw]
        exact ⟨_, rfl, rfl⟩
    · rw [decide_eq_false cb] at eb
      have eos : os = (Txt.split b ",").map (numM 19) := by rw [hos]; exact if_neg cb
      simp -implicitDefEqProofs [sp, e0, z0, a0, d0, er, eo, dv, mv, a1, eb, ix, nw, sb]
      refine ⟨by omega, wp_lcT (enc := PyData.str) (fun w => endD (numM 19 w)) (fun w hw => ?_) ?_⟩
      · simp -implicitDefEqProofs [l19 w hw]
      have em : (Txt.split b ",").map (fun w => endD (numM 19 w)) = os.map endD := by rw [eos, List.map_map]; rfl
      rw [em]
      by_cases ca : a = wordO d
      · rw [decide_eq_true ca] at nw
        rw [if_pos ca]
        by_cases cn : os.contains none = true
        · rw [cn] at inE
          rw [if_pos cn]
          simp -implicitDefEqProofs [sp, e0, z0, a0, d0, er, eo, dv, mv, a1, eb, ix, nw, inE]
          exact ⟨_, rfl, rfl⟩
        · have cn : os.contains none = false := by simpa using cn
          rw [cn] at inE
          rw [if_neg (by rw [cn]; decide)]
          obtain ⟨l, hl2⟩ : ∃ l, l = os.map (·.getD 0) := ⟨_, rfl⟩
          rw [os_some cn, ← hl2] at inE
          rw [os_some cn, ← hl2]
          have sl := sort_L (l := l)
          simp -implicitDefEqProofs [sp, e0, z0, a0, d0, er, eo, dv, mv, a1, eb, ix, nw, inE, sl]
          refine ⟨in62_nat (by omega), by omega, wp_lc (enc := natD) (isAt R d h) natD (fun k hk => ?_) ?_⟩
          · have hk := List.mem_range.mp hk
            have g : atI (R.map rdD) (k : Int) = some (rdD R[k]) := atI_map hk
            have sd : atI [eI R[k].b, eI R[k].e] (d : Int) = some (eI (side d R[k])) := by
              have : d = 0 ∨ d = 1 := by omega
              rcases this with rfl | rfl <;> rfl
            have eb := eI_b (o := side d R[k]) (h := h)
            have ia : isAt R d h k = (side d R[k] == some h) := by
              unfold isAt
              rw [List.getElem?_eq_getElem hk]
            have rd : rdD R[k] = .list [eI R[k].b, eI R[k].e] := rfl
            rw [ia]
            simp -implicitDefEqProofs [g, rd, sd, eb]
          · rw [filter_atR]
            have ns := ne_sort (l := l) (atR_sorted R d h)
            by_cases p : l.Perm (atR R d h)
            · rw [decide_eq_true p] at ns
              rw [if_pos p]
              simp -implicitDefEqProofs [ns]
              exact ⟨by omega, _, rfl, rfl⟩
            · rw [decide_eq_false p] at ns
              rw [if_neg p]
              simp -implicitDefEqProofs [ns]
              exact ⟨_, rfl, rfl⟩
      · rw [decide_eq_false ca] at nw
        rw [if_neg ca]
        simp -implicitDefEqProofs [sp, e0, z0, a0, d0, er, eo, dv, mv, a1, eb, ix, nw]
        exact ⟨_, rfl, rfl⟩
  · have er2 : ordOf (atR R (O.length / n) (O.length % n)) (wordO (O.length / n)) x = none := by
      unfold ordOf
      rw [hws]
      match ws, c2 with
      | [], _ => rfl
      | [_], c => exact absurd rfl c
      | _ :: _ :: _, _ => rfl
    rw [er2]
    have n2 : ((ws.length : Int) + 1 == 2) = false := by rw [beq_eq_false_iff_ne]; omega
    simp -implicitDefEqProofs [sp, e0, z0, a0, d0, er, eo, n2]
    exact ⟨_, rfl, rfl⟩
end
end Fn

namespace Fn
open PySem PySem.Spec PyProof.Rows L2 Uv TL
section
variable {n m v k : Nat} {l own : List Nat} {a b y s x w : Str} {r : Road} {o : Option Nat} {R : List Road} {O : List (List Nat)}
structure LS where
  n : Nat
  R : List Road
  O : List (List Nat)
def LS.enc (z : LS) : List Sl := encS z.n z.R z.O
structure LS.Ok (z : LS) : Prop where
  z0 : z.n = 0 → z.R = [] ∧ z.O = []
  n8 : z.n ≤ 8
  R20 : z.R.length ≤ 20
  O2 : z.O.length ≤ 2 * z.n
def stepL (z : LS) (x : Str) : Option LS := if z.n = 0 then (hofL x).map fun h => ⟨h, [], []⟩ else match Txt.split x " " with
  | a :: _ => if a = "road" then (if z.O = [] ∧ z.R.length ≠ 20 then roadOf z.n x else none).map fun r => ⟨z.n, z.R ++ [r], z.O⟩
    else (if z.R = [] ∨ z.O.length = 2 * z.n then none else ordOf (atR z.R (z.O.length / z.n) (z.O.length % z.n)) (wordO (z.O.length / z.n)) x).map fun l => ⟨z.n, z.R, z.O ++ [l]⟩
  | [] => none
def outL (z : LS) : Option LS → PD × List Sl
  | some z' => (.bool true, z'.enc)
  | none => (.bool false, z.enc)
theorem l_step {z : LS} (ok : z.Ok) (ha : Sg ascB x) (hl : x.length ≤ 20000) : F__law_line_right_b z.enc [.str x] = some (outL z (stepL z x)) := by
  obtain ⟨n, R, O⟩ := z
  obtain ⟨z0, n8, R20, O2⟩ := ok
  simp only at z0 n8 R20 O2
  unfold stepL LS.enc
  simp only
  by_cases c : n = 0
  · subst c
    obtain ⟨rfl, rfl⟩ := z0 rfl
    rw [if_pos rfl, l_line0 ha hl]
    cases hofL x <;> rfl
  · rw [if_neg c]
    cases e : Txt.split x " " with
    | nil => exact absurd e (split_ne x (c := 32) (by decide) (by decide))
    | cons a ws =>
      simp only
      by_cases ca : a = "road"
      · subst ca
        rw [if_pos rfl, l_lineR e ha hl (by omega) R20]
        generalize (if O = [] ∧ R.length ≠ 20 then roadOf n x else none) = q
        cases q <;> rfl
      · rw [if_neg ca, l_lineO e ca ha hl (by omega) n8 R20 O2]
        generalize (if R = [] ∨ O.length = 2 * n then none else ordOf (atR R (O.length / n) (O.length % n)) (wordO (O.length / n)) x) = q
        cases q <;> rfl
theorem step_ok {z z' : LS} (ok : z.Ok) (h : stepL z x = some z') : z'.Ok ∧ z'.n ≠ 0 := by
  obtain ⟨n, R, O⟩ := z
  obtain ⟨z0, n8, R20, O2⟩ := ok
  simp only at z0 n8 R20 O2
  unfold stepL at h
  simp only at h
  split at h
  · obtain ⟨q, h1, rfl⟩ := Option.map_eq_some_iff.mp h
    have := hof_eq h1
    exact ⟨⟨fun z => by simp only at z; omega, this.2.2, by simp, by simp⟩, by simp only; omega⟩
  · rename_i c
    split at h
    · split at h
      · obtain ⟨q, h1, rfl⟩ := Option.map_eq_some_iff.mp h
        split at h1
        · rename_i cc
          exact ⟨⟨fun z => absurd z c, n8, by simp; omega, O2⟩, c⟩
        · cases h1
      · obtain ⟨q, h1, rfl⟩ := Option.map_eq_some_iff.mp h
        split at h1
        · cases h1
        · rename_i cc
          exact ⟨⟨fun z => absurd z c, n8, R20, by simp only [List.length_append, List.length_singleton]; have : ¬ O.length = 2 * n := fun z => cc (.inr z); omega⟩, c⟩
    · cases h
def runL (z : LS) : List Str → Nat → Nat ⊕ LS
  | [], _ => .inr z
  | x :: xs, i => match stepL z x with
    | some z' => runL z' xs (i + 1)
    | none => .inl i
theorem run_app {z : LS} {xs ys : List Str} {i : Nat} : runL z (xs ++ ys) i = match runL z xs i with
    | .inl j => .inl j
    | .inr z' => runL z' ys (i + xs.length) := by
  induction xs generalizing z i with
  | nil => rfl
  | cons x xs ih =>
    show (match stepL z x with | some z' => runL z' (xs ++ ys) (i + 1) | none => .inl i) = (match (match stepL z x with | some z' => runL z' xs (i + 1) | none => .inl i) with | .inl j => .inl j | .inr z' => runL z' ys (i + (x :: xs).length))
    cases stepL z x with
    | none => rfl
    | some z' =>
      simp only
      rw [ih, List.length_cons, show i + 1 + xs.length = i + (xs.length + 1) by omega]
def z0L : LS := ⟨0, [], []⟩
theorem z0_ok : z0L.Ok := ⟨fun _ => ⟨rfl, rfl⟩, by decide, by decide, by decide⟩
end
end Fn

namespace Fn
open PySem PySem.Spec PyProof.Rows L2 Uv TL
section
variable {n m v k : Nat} {l own : List Nat} {a b y s x w : Str} {r : Road} {o : Option Nat} {R : List Road} {O : List (List Nat)} {P : List Str}
def linesL (P : List Str) : List Str := if P.getLast? = some ("" : Str) then P.dropLast else P
def faultT (P : List Str) : Int := match runL z0L (linesL P) 0 with
  | .inl i => (i : Int)
  | .inr z => if z.n = 0 ∨ z.O.length < 2 * z.n ∨ P.getLast? ≠ some ("" : Str) then ((linesL P).length : Int) else -1
theorem cut_but {α : Type} {f : α → PD} {l : List α} : Uv.cutD (l.map f) none (some (-1)) = l.dropLast.map f := by
  unfold Uv.cutD
  rw [HT.sIx_none]
  have e : HT.sIx (l.map f).length (l.map f).length (some (-1)) = l.length - 1 := by
    rw [List.length_map]
    show (if (-1 : Int) < 0 then ((-1 : Int) + ((l.length : Nat) : Int)).toNat else min (-1 : Int).toNat l.length) = _
    rw [if_pos (by decide)]
    omega
  rw [e, List.drop_zero, Nat.sub_zero, ← List.map_take, List.dropLast_eq_take]
theorem cut_end {α : Type} {f : α → PD} {l : List α} {z : α} : Uv.cutD ((l ++ [z]).map f) (some (-1)) none = [f z] := by
  have e : HT.sIx ((l ++ [z]).map f).length 0 (some (-1)) = l.length := by
    rw [List.length_map, List.length_append]
    show (if (-1 : Int) < 0 then ((-1 : Int) + ((l.length + 1 : Nat) : Int)).toNat else min (-1 : Int).toNat (l.length + 1)) = _
    rw [if_pos (by decide)]
    omega
  unfold Uv.cutD
  rw [e, HT.sIx_none, List.map_append, List.drop_left' (by simp)]
  simp
@[simp] theorem q_wCallC {js : List Nat} {g : List Sl → List PD → Option (PD × List Sl)} {t : XE} {ρ : Uv.Env} : wCallC js g t ρ = (t (mk ρ)).bind fun d => (tagsL ρ js).bind fun ss => (g ss [d]).bind fun y => (backs ρ js y.2).bind fun ρ' => some (y.1, ρ') := (rfl)
theorem tg345 {s0 s1 s2 s6 s7 : Sl} {A B C : List Cel} : tagsL [s0, s1, s2, .own A, .own B, .own C, s6, s7] [3, 4, 5] = some [.own A, .own B, .own C] := rfl
theorem bk345 {s0 s1 s2 s6 s7 : Sl} {A B C A' B' C' : List Cel} : backs [s0, s1, s2, .own A, .own B, .own C, s6, s7] [3, 4, 5] [.own A', .own B', .own C'] = some [s0, s1, s2, .own A', .own B', .own C', s6, s7] := rfl
theorem run_at {z z' : LS} {xs : List Str} {i : Nat} (hi : i < xs.length) (h : runL z (xs.take i) 0 = .inr z') : runL z (xs.take (i + 1)) 0 = (match stepL z' xs[i] with | some z2 => .inr z2 | none => .inl i) ∧ (stepL z' xs[i] = none → runL z xs 0 = .inl i) := by
  have e1 : xs.take (i + 1) = xs.take i ++ [xs[i]] := by rw [List.take_succ, List.getElem?_eq_getElem hi]; rfl
  have l1 : (xs.take i).length = i := by rw [List.length_take]; omega
  refine ⟨?_, fun hn => ?_⟩
  · rw [e1, run_app, h]
    simp only
    rw [l1, Nat.zero_add]
    unfold runL
    cases stepL z' xs[i] <;> rfl
  · have e2 : xs = xs.take i ++ (xs[i] :: xs.drop (i + 1)) := by rw [List.getElem_cons_drop, List.take_append_drop]
    conv => lhs; rw [e2]
    rw [run_app, h]
    simp only
    rw [l1, Nat.zero_add]
    unfold runL
    rw [hn]
theorem l_fault (ha : Sg ascB x) (hl : x.length ≤ 20000) : F__law_text_fault_b [.str x] = some (.int (faultT (Txt.split x "\n"))) := by
  obtain ⟨P, hP⟩ : ∃ P, P = Txt.split x "\n" := ⟨_, rfl⟩
  have sp : splitT (.str x) (.str "\n") = some (.list (P.map PyData.str)) := by rw [hP]; exact if_pos ⟨by decide, by omega⟩
  have pi := parts_in (x := x) (y := "\n") (c := 10) (by decide) (by decide) ha
  have ne : P ≠ [] := by rw [hP]; exact split_ne x (c := 10) (by decide) (by decide)
  rw [← hP] at pi ⊢
  obtain ⟨I, e, rfl⟩ : ∃ I e, P = I ++ [e] := ⟨P.dropLast, P.getLast ne, (List.dropLast_concat_getLast ne).symm⟩
  have gl : (I ++ [e]).getLast? = some e := by simp
  have dl : (I ++ [e]).dropLast = I := by simp
  have c1 := cut_but (f := PyData.str) (l := I ++ [e])
  rw [dl] at c1
  have c2 := cut_end (f := PyData.str) (l := I) (z := e)
  have la := at_last (g := PyData.str) (l := I) (x := e)
  have we := (pi.1 e (by simp)).1
  have nl := ne_strs we (b := "") (sg_lit (by decide))
  have ty : isTy .str (.str x) = true := rfl
  obtain ⟨Ls, hLs⟩ : ∃ Ls, Ls = linesL (I ++ [e]) := ⟨_, rfl⟩
  have lL : Ls.length ≤ 20001 := by
    rw [hLs]; unfold linesL
    have := pi.2
    split
    · rw [dl]; simp at this; omega
    · omega
  have inL : ∀ w ∈ Ls, Sg ascB w ∧ w.length ≤ x.length := fun w hw => by
    rw [hLs] at hw; unfold linesL at hw
    split at hw
    · rw [dl] at hw; exact pi.1 w (List.mem_append_left _ hw)
    · exact pi.1 w hw
  have lI : I.length ≤ 20001 := by have := pi.2; simp at this; omega
  obtain ⟨L, hL⟩ : ∃ L, L = (I ++ [e]).map PyData.str := ⟨_, rfl⟩
  rw [← hL] at sp c1 c2 la
  have key : wp ((xOp addP (xSl (xVar 1) xNoPart (xPart (xUn negP (xC (.int 1))))) (xOp mulU (xSl (xVar 1) (xPart (xUn negP (xC (.int 1)))) xNoPart) (xCB (on1 toIntP) (xCons (xOp neP (xOp ixP (xVar 1) (xUn negP (xC (.int 1)))) (xC (.str ""))) xNil)))) [some (.str x), some (.list L), none, none, none, none, none, none]) (tag fun d => d = .list (Ls.map PyData.str)) := by
    by_cases z : e = ""
    · rw [decide_eq_true z] at nl
      have m0 : mulU (.list [PyData.str e]) (.int 0) = some (.list []) := rfl
      have a0 : addP (.list (I.map PyData.str)) (.list []) = some (.list (Ls.map PyData.str)) := by
        have : Ls = I := by
          rw [hLs]; unfold linesL; rw [gl, dl, if_pos (by rw [z])]
        rw [this]
        show (if (I.map PyData.str).length + 0 ≤ 100000 then _ else _) = _
        rw [if_pos (by rw [List.length_map]; omega), List.append_nil]
      simp -implicitDefEqProofs [c1, c2, la, nl, m0, a0]
    · rw [decide_eq_false z] at nl
      have m0 : mulU (.list [PyData.str e]) (.int 1) = some (.list [.str e]) := rfl
      have a0 : addP (.list (I.map PyData.str)) (.list [PyData.str e]) = some (.list (Ls.map PyData.str)) := by
        have : Ls = I ++ [e] := by
          rw [hLs]; unfold linesL; rw [gl, if_neg (by intro t; exact z (Option.some.inj t))]
        rw [this]
        show (if (I.map PyData.str).length + 1 ≤ 100000 then _ else _) = _
        rw [if_pos (by rw [List.length_map]; omega), List.map_append]
        rfl
      simp -implicitDefEqProofs [c1, c2, la, nl, m0, a0]
  have key := wp_eq.mp key
  refine eq_of_wp ?_
  unfold F__law_text_fault_b
  refine wp_runP rfl ?_
  unfold X__law_text_fault_b
  generalize (xOp addP (xSl (xVar 1) xNoPart (xPart (xUn negP (xC (.int 1))))) (xOp mulU (xSl (xVar 1) (xPart (xUn negP (xC (.int 1)))) xNoPart) (xCB (on1 toIntP) (xCons (xOp neP (xOp ixP (xVar 1) (xUn negP (xC (.int 1)))) (xC (.str ""))) xNil)))) = E at key ⊢
  have ad : allDat [Cel.dat (PyData.int 0)] = some [PyData.int 0] := rfl
  simp -implicitDefEqProofs [ty, sp, key, ad]
  refine wp_forE (enc := PyData.str) (l := Ls) (fun i ρ => ∃ z : LS, z.Ok ∧ runL z0L (Ls.take i) 0 = .inr z ∧ ∃ s6 s7 : Sl, ρ = [.dat (.str x), .dat (.list L), .dat (.list (Ls.map PyData.str)), .own (dats [natD z.n]), .own (dats (z.R.map rdD)), .own (dats (z.O.map lsD)), s6, s7]) ⟨z0L, z0_ok, rfl, _, _, rfl⟩ ?_ ?_
  · rintro i hi ρ ⟨z, ok, hr, s6, s7, rfl⟩
    have wi := inL _ (List.getElem_mem hi)
    have st := l_step ok wi.1 (by omega)
    unfold X__law_text_fault_b_b1
    have en : z.enc = [.own (dats [natD z.n]), .own (dats (z.R.map rdD)), .own (dats (z.O.map lsD))] := rfl
    rw [en] at st
    cases hs : stepL z Ls[i] with
    | none =>
      rw [hs] at st
      have hn := (run_at hi hr).2 hs
      have eF : faultT (I ++ [e]) = (i : Int) := by
        unfold faultT
        rw [← hLs, hn]
      rw [eF]
      simp -implicitDefEqProofs [st, outL, en, tg345, bk345]
    | some z' =>
      rw [hs] at st
      have en' : z'.enc = [.own (dats [natD z'.n]), .own (dats (z'.R.map rdD)), .own (dats (z'.O.map lsD))] := rfl
      have hn := (run_at hi hr).1
      rw [hs] at hn
      simp -implicitDefEqProofs [st, outL, en', tg345, bk345]
      exact ⟨z', (step_ok ok hs).1, hn, _, _, rfl⟩
  · rintro ρ ⟨z, ok, hr, s6, s7, rfl⟩
    rw [List.take_length] at hr
    simp -implicitDefEqProofs [la, nl]
    have eF : faultT (I ++ [e]) = if ((z.n : Int) == 0 || (decide ((z.O.length : Int) < 2 * (z.n : Int)) || !decide (e = ""))) = true then (Ls.length : Int) else -1 := by
      unfold faultT
      rw [← hLs, hr]
      simp only [gl]
      congr 1
      rw [Bool.or_eq_true, Bool.or_eq_true, beq_iff_eq, decide_eq_true_iff, Bool.not_eq_true', decide_eq_false_iff_not]
      refine propext ?_
      constructor
      · rintro (h | h | h)
        · exact .inl (by omega)
        · exact .inr (.inl (by omega))
        · exact .inr (.inr fun t => h (by rw [t]))
      · rintro (h | h | h)
        · exact .inl (by omega)
        · exact .inr (.inl (by omega))
        · exact .inr (.inr fun t => h (Option.some.inj t))
    rw [eF]
    cases hc : ((z.n : Int) == 0 || (decide ((z.O.length : Int) < 2 * (z.n : Int)) || !decide (e = ""))) with
    | true => simp -implicitDefEqProofs
    | false => simp -implicitDefEqProofs
end
end Fn

namespace Fn
open PySem PySem.Spec PyProof.Rows L2 Uv TL
section
variable {n m v k : Nat} {l own : List Nat} {a b y s x w : Str} {r : Road} {o : Option Nat} {R : List Road} {O : List (List Nat)} {P : List Str}
@[simp] theorem q_sRz0 {n : Nat} {t : XE} {ρ : Uv.Env} : sRz n (xCons t xNil) ρ = (t (mk ρ)).bind fun d => some (.ret (exzD n [d]) ρ) := by
  unfold sRz
  show ((t (mk ρ)).bind fun d => _).bind _ = _
  cases t (mk ρ) <;> rfl
theorem p_check78 {d : PD} (f : full d = false) : F_check_text_c [d] = some (if isTy .str d = true then .none else exzD 16 [.none]) := by
  refine eq_of_wp ?_
  unfold F_check_text_c
  refine wp_runP rfl ?_
  unfold X_check_text_c
  cases h : isTy .str d with
  | true => simp -implicitDefEqProofs [h, f]
  | false => simp -implicitDefEqProofs [h, f]
theorem hof_some {i : Nat} (h : x = housS (i + 1)) (hi : i < 8) : hofL x = some (i + 1) := by rw [h]; exact hof_of (by omega) (by omega)
theorem p_houses78 {p0 : Str} {T : List PD} (ha : Sg ascB p0) (hT : T.length ≤ 90000) : F_read_houses_c [.list (.str p0 :: T)] = some (match hofL p0 with | some h => natD h | none => exzD 16 [.int 0]) := by
  have a0 : ∀ l : List PD, atI (PyData.str p0 :: l) 0 = some (.str p0) := fun _ => at_0
  have rg : rng2P [.int 1, .int 9] = some ((List.range 8).map fun k => natD (k + 1)) := rfl
  refine eq_of_wp ?_
  unfold F_read_houses_c
  refine wp_runP rfl ?_
  unfold X_read_houses_c
  simp -implicitDefEqProofs [rg]
  refine wp_forM (fun i ρ => (∀ j, j < i → p0 ≠ housS (j + 1)) ∧ ∃ z, ρ = [.dat (.list (.str p0 :: T)), z]) ⟨fun j hj => by omega, _, rfl⟩ ?_ ?_
  · rintro i hi ρ ⟨lt, z, rfl⟩
    rw [List.getElem_range]
    have hi : i < 8 := by simpa using hi
    unfold X_read_houses_c_b1
    have hl := p_houses_line (n := i + 1) (Nat.lt_of_le_of_lt (show i + 1 ≤ 8 by omega) (by decide))
    have ee := eq_strs ha (asc_hous (n := i + 1))
    by_cases c : p0 = housS (i + 1)
    · rw [decide_eq_true c] at ee
      rw [hof_some c hi]
      simp -implicitDefEqProofs [a0, hl, ee]
    · rw [decide_eq_false c] at ee
      simp -implicitDefEqProofs [a0, hl, ee]
      refine ⟨fun j hj => ?_, _, rfl⟩
      by_cases e : j = i
      · rw [e]; exact c
      · exact lt j (by omega)
  · rintro ρ ⟨lt, z, rfl⟩
    rw [List.length_range] at lt
    have hn : hofL p0 = none := by
      cases e : hofL p0 with
      | none => rfl
      | some h =>
        obtain ⟨e1, e2, e3⟩ := hof_eq e
        exact absurd (by rw [e1, Nat.sub_add_cancel e2]) (lt (h - 1) (by omega))
    rw [hn]
    simp -implicitDefEqProofs
theorem rf_okr {y : Road} (h : rfD n k (roadD y) = .none) (hn : 1 ≤ n) : OkRoad n y := by
  have h : (if isEndB n (endD y.b) = false then flt [.int 0, natD k, .int 0] "begin" else if isEndB n (endD y.e) = false then flt [.int 0, natD k, .int 1] "end" else if PyData.eqv (endD y.b) (endD y.e) = true then flt [.int 0, natD k] "alike" else if isN 1000000000001 (.int y.r) = false then flt [.int 0, natD k, .int 2] "room" else .none) = PyData.none := h
  by_cases c1 : isEndB n (endD y.b) = false
  · rw [if_pos c1] at h; exact nomatch h
  rw [if_neg c1] at h
  by_cases c2 : isEndB n (endD y.e) = false
  · rw [if_pos c2] at h; exact nomatch h
  rw [if_neg c2] at h
  by_cases c3 : PyData.eqv (endD y.b) (endD y.e) = true
  · rw [if_pos c3] at h; exact nomatch h
  rw [if_neg c3] at h
  by_cases c4 : isN 1000000000001 (.int y.r) = false
  · rw [if_pos c4] at h; exact nomatch h
  have en : ∀ o : Option Nat, isEndB n (endD o) = true → ∀ h, o = some h → h < n := fun o ho h e => by
    subst e
    have ho : (decide (0 ≤ (h : Int)) && decide ((h : Int) < (n : Int))) = true := ho
    rw [Bool.and_eq_true, decide_eq_true_iff, decide_eq_true_iff] at ho
    omega
  have c4 : (decide (0 ≤ y.r) && decide (y.r < ((1000000000001 : Nat) : Int))) = true := by
    have : isN 1000000000001 (.int y.r) = true := by simpa using c4
    exact this
  rw [Bool.and_eq_true, decide_eq_true_iff, decide_eq_true_iff] at c4
  refine ⟨fun e => c3 ?_, en _ (by simpa using c1), en _ (by simpa using c2), c4.1, by omega⟩
  rw [e]
  cases y.e with
  | none => rfl
  | some j => show ((j : Int) == (j : Int)) = true; exact beq_self_eq_true _
end
end Fn

namespace Fn
open PySem PySem.Spec PyProof.Rows L2 Uv
theorem rf_none {n k : Nat} {x : PD} (h : rfD n k x = .none) : ∃ y : Road, x = roadD y := by
  have key : ∀ b e r, x = .tuple [b, e, r] → ∃ y : Road, x = roadD y := by
    intro b e r hx
    subst hx
    have h : (if isEndB n b = false then flt [.int 0, natD k, .int 0] "begin" else if isEndB n e = false then flt [.int 0, natD k, .int 1] "end" else if PyData.eqv b e = true then flt [.int 0, natD k] "alike" else if isN 1000000000001 r = false then flt [.int 0, natD k, .int 2] "room" else .none) = PyData.none := h
    have en : ∀ y : PD, isEndB n y = true → ∃ o, y = endD o := fun y hy => by
      cases q : isNone y with
      | true => cases y <;> first | exact ⟨none, rfl⟩ | exact nomatch q
      | false =>
        have : isN n y = true := by unfold isEndB at hy; rw [q] at hy; exact hy
        exact ⟨some (toN y), (isN_eq this).1⟩
    by_cases c1 : isEndB n b = false
    · rw [if_pos c1] at h; exact nomatch h
    rw [if_neg c1] at h
    by_cases c2 : isEndB n e = false
    · rw [if_pos c2] at h; exact nomatch h
    rw [if_neg c2] at h
    by_cases c3 : PyData.eqv b e = true
    · rw [if_pos c3] at h; exact nomatch h
    rw [if_neg c3] at h
    by_cases c4 : isN 1000000000001 r = false
    · rw [if_pos c4] at h; exact nomatch h
    obtain ⟨o1, rfl⟩ := en b (by simpa using c1)
    obtain ⟨o2, rfl⟩ := en e (by simpa using c2)
    have := (isN_eq (show isN 1000000000001 r = true by simpa using c4)).1
    exact ⟨⟨o1, o2, (toN r : Int)⟩, by rw [this]; rfl⟩
  match x, h, key with
  | .tuple [b, e, r], _, key => exact key b e r rfl
end Fn

namespace Fn
open PySem PySem.Spec PyProof.Rows L2 Uv TL
section
variable {n m v k : Nat} {l own : List Nat} {a b y s x w : Str} {r : Road} {o : Option Nat} {R : List Road} {O : List (List Nat)} {P : List Str}
def takeR (n : Nat) : List Str → List Road
  | [] => []
  | x :: xs => match roadOf n x with
    | some r => r :: takeR n xs
    | none => []
theorem takeR_ok (hn : 1 ≤ n) : ∀ {xs : List Str}, ∀ r ∈ takeR n xs, OkRoad n r
  | [], r, h => nomatch h
  | x :: xs, r, h => by
    have h : r ∈ (match roadOf n x with | some r => r :: takeR n xs | none => []) := h
    cases e : roadOf n x with
    | none => rw [e] at h; exact nomatch h
    | some q =>
      rw [e] at h
      rcases List.mem_cons.mp h with rfl | h
      · exact (road_eq e hn).2
      · exact takeR_ok hn r h
theorem takeR_len : ∀ {xs : List Str}, (takeR n xs).length ≤ xs.length
  | [] => Nat.le_refl _
  | x :: xs => by
    show (match roadOf n x with | some r => r :: takeR n xs | none => []).length ≤ _
    cases roadOf n x with
    | none => exact Nat.zero_le _
    | some q => exact Nat.succ_le_succ takeR_len
theorem word_word (h : ∀ n, o = some n → n < 10 ^ 13) : wordN (wordS o) = o := by
  cases o with
  | none => decide +kernel
  | some k => exact val_num (h k rfl)
def tailD (x : Str) : PD := .tuple ((Txt.split x " ").tail.map fun w => endD (wordN w))
theorem tail_road (or : OkR r) : tailD (roadS r) = roadD r := by
  unfold tailD
  rw [split_roadS]
  show PyData.tuple [endD (wordN (wordS r.b)), endD (wordN (wordS r.e)), endD (wordN (wordS (some r.r.toNat)))] = _
  rw [word_word or.b, word_word or.e, word_word (fun n z => by cases z; exact or.num), roadD_nat or]
  rfl
theorem parts_len (x : Str) : (Txt.split x " ").length ≤ x.length + 1 := by
  have e : (Txt.split x " ").map tl = spl [32] 0 [] (tl x) := split_spl x " " (by decide) (kind_ok (by decide +kernel))
  have h := (spl_any (q := 32) (tl x) []).2
  rw [← e, List.length_map, ← len_tl] at h
  exact h
theorem bd_tail (hl : x.length ≤ 20000) : Bd 20001 1 (tailD x) := by
  unfold tailD
  have := (parts_len x)
  refine Bd.mk (by rw [List.length_map, List.length_tail]; omega) fun d hd => ?_
  obtain ⟨w, _, rfl⟩ := List.mem_map.mp hd
  exact lf_end fun n h => wordN_lt h
theorem p_roads78 {p0 : Str} (hs : ∀ x ∈ P, Sg ascB x ∧ x.length ≤ 20000) (hP : P.length ≤ 20001) (h1 : 1 ≤ n) (h8 : n ≤ 8) :
    F_read_roads_c [.list (.str p0 :: P.map PyData.str), natD n] = some (if takeR n (P.take 20) = [] then exzD 16 [.int 1] else .tuple ((takeR n (P.take 20)).map roadD)) := by
  obtain ⟨xs, hxs⟩ : ∃ xs, xs = P.take 20 := ⟨_, rfl⟩
  have ct : Uv.cutD (.str p0 :: P.map PyData.str) (some 1) (some 21) = xs.map PyData.str := by
    have := cut_in (ds := .str p0 :: P.map PyData.str) (j := 1) (k := 21)
    rw [show ((1 : Nat) : Int) = 1 from rfl, show ((21 : Nat) : Int) = 21 from rfl] at this
    rw [this, hxs, List.map_take]
    rfl
  have lx : xs.length ≤ 20 := by rw [hxs, List.length_take]; omega
  have ix : ∀ x ∈ xs, Sg ascB x ∧ x.length ≤ 20000 := fun x hx => hs x (by rw [hxs] at hx; exact List.mem_of_mem_take hx)
  rw [← hxs]
  have fin : ∀ D : List Road, takeR n xs = D → (if ((D.length : Int) == 0) = true then (exzD 16 [.int 1]) else .tuple (D.map roadD)) = if takeR n xs = [] then exzD 16 [.int 1] else .tuple ((takeR n xs).map roadD) := fun D e => by
    rw [e]
    cases D with
    | nil => rfl
    | cons d D =>
      rw [if_neg (by rw [beq_iff_eq, List.length_cons]; omega), if_neg (by simp)]
  refine eq_of_wp ?_
  unfold F_read_roads_c
  refine wp_runP rfl ?_
  unfold X_read_roads_c
  simp -implicitDefEqProofs [ct]
  refine wp_forM (enc := PyData.str) (l := xs) (fun i ρ => ∃ D : List Road, D.length = i ∧ takeR n xs = D ++ takeR n (xs.drop i) ∧ ∃ z3 z4 : Sl, ρ = [.dat (.list (.str p0 :: P.map PyData.str)), .dat (natD n), .own (dats (D.map roadD)), z3, z4, .un]) ⟨[], rfl, rfl, _, _, rfl⟩ ?_ ?_
  · rintro i hi ρ ⟨D, lD, hD, z3, z4, rfl⟩
    subst lD
    have xi := ix _ (List.getElem_mem hi)
    obtain ⟨x, hx⟩ : ∃ x, x = xs[D.length] := ⟨_, rfl⟩
    rw [List.drop_eq_getElem_cons hi] at hD
    rw [← hx] at xi hD ⊢
    have hD : takeR n xs = D ++ (match roadOf n x with | some r => r :: takeR n (xs.drop (D.length + 1)) | none => []) := hD
    unfold X_read_roads_c_b1
    have sp := split_gen (x := x) (by omega)
    obtain ⟨ws, hws⟩ : ∃ ws, ws = Txt.split x " " := ⟨_, rfl⟩
    have wi := words_in xi.1
    rw [← hws] at sp wi
    have rf := p_roadF (n := n) (k := D.length) (bd_tail xi.2)
    have et : PyData.tuple (ws.tail.map fun w => endD (wordN w)) = tailD x := by unfold tailD; rw [hws]
    have c1 : Uv.cutD (ws.map PyData.str) (some 1) none = ws.tail.map PyData.str := by
      have := cut_nat (ds := ws.map PyData.str) (k := 1)
      rw [show ((1 : Nat) : Int) = 1 from rfl] at this
      rw [this, List.drop_one, List.map_tail]
    have lw : ws.tail.length ≤ 40000 := by rw [List.length_tail]; omega
    obtain ⟨wt, hwt⟩ : ∃ wt, wt = ws.tail := ⟨_, rfl⟩
    have wm : ∀ w ∈ wt, Sg ascB w ∧ w.length ≤ x.length := fun w hw => wi.1 w (List.mem_of_mem_tail (by rw [← hwt]; exact hw))
    rw [← hwt] at c1 lw et
    simp -implicitDefEqProofs [sp, c1]
    refine ⟨lw, ?_⟩
    refine wp_lcT (enc := PyData.str) (l := wt) (fun w => endD (wordN w)) (fun w hw => ?_) ?_
    · have := wm w hw
      have pw := p_word this.1 (by omega)
      simp -implicitDefEqProofs [pw]
    obtain ⟨t, ht⟩ : ∃ t, t = tailD x := ⟨_, rfl⟩
    obtain ⟨Lw, hLw⟩ : ∃ Lw, Lw = wt.map fun w => endD (wordN w) := ⟨_, rfl⟩
    rw [← ht] at rf et
    rw [← hLw] at et ⊢
    cases e : roadOf n x with
    | some r =>
      rw [e] at hD
      obtain ⟨e1, ok⟩ := road_eq e h1
      have or := okr_of ok h8
      have er : t = roadD r := by rw [ht, e1, tail_road or]
      have rk := rf_ok (k := D.length) ok
      have rl := p_road_line or
      have ee := ne_str (sg_asc (asc_road (x := r)))
      rw [er] at et rf
      rw [rk] at rf
      rw [← e1] at rl ee
      simp -implicitDefEqProofs [et, rf, rl, ee]
      exact ⟨by omega, D ++ [r], by simp, by rw [hD, List.append_assoc]; rfl, _, _, by rw [List.map_append]; rfl⟩
    | none =>
      rw [e] at hD
      have hD : takeR n xs = D := by rw [hD]; exact List.append_nil _
      have fD := fin D hD
      by_cases rn : rfD n D.length t = .none
      · obtain ⟨y, ey⟩ := rf_none rn
        rw [ey] at rn
        have ok := rf_okr rn h1
        have or := okr_of ok h8
        have rl := p_road_line or
        have nx : roadS y ≠ x := fun z => by
          rw [← z, road_of ok h8] at e
          cases e
        have ee := ne_strs (asc_road (x := y)) xi.1
        rw [decide_eq_false nx] at ee
        rw [ey] at et rf
        rw [rn] at rf
        simp -implicitDefEqProofs [et, rf, rl, ee]
        rw [← fD]
        cases hc : ((D.length : Int) == 0) with
        | true => simp -implicitDefEqProofs
        | false => simp -implicitDefEqProofs
      · have nn : isNone (rfD n D.length t) = false := by
          cases q : rfD n D.length t <;> first | rfl | exact absurd q rn
        simp -implicitDefEqProofs [et, rf, nn]
        rw [← fD]
        cases hc : ((D.length : Int) == 0) with
        | true => simp -implicitDefEqProofs
        | false => simp -implicitDefEqProofs
  · rintro ρ ⟨D, lD, hD, z3, z4, rfl⟩
    rw [List.drop_length] at hD
    have hD : takeR n xs = D := by rw [hD]; exact List.append_nil _
    rw [← fin D hD]
    simp -implicitDefEqProofs
    cases hc : ((D.length : Int) == 0) with
    | true => simp -implicitDefEqProofs
    | false => simp -implicitDefEqProofs
end
end Fn

namespace Fn
open PySem PySem.Spec PyProof.Rows L2 Uv TL
section
variable {n m v k : Nat} {l own : List Nat} {a b y s x w : Str} {r : Road} {o : Option Nat} {R : List Road} {O : List (List Nat)} {P : List Str}
theorem in_endT {os : List (Option Nat)} {o : Option Nat} : inP (endD o) (.tuple (os.map endD)) = some (.bool (os.contains o)) := by
  unfold inP
  rw [if_pos ⟨lay_end.sh, (Lay.tup (k := 59) (Lay.map fun _ => lay_end)).sh⟩]
  show some (PyData.bool _) = _
  rw [any_endL]
def m13 : Nat := 9999999999999
theorem numM_13 : numM m13 w = wordN w := by
  cases e : wordN w with
  | none => exact numM_none e
  | some k => exact numM_le e (by have := wordN_lt e; unfold m13; omega)
theorem p_rin (ha : Sg ascB b) (hl : b.length ≤ 20000) : F_roads_in [.str b] = some (match listIn m13 b with | some l => natsD l | none => .none) := by
  have ee := eq_strs ha (b := "-") (sg_lit (by decide))
  have sp : splitT (.str b) (.str ",") = some (.list ((Txt.split b ",").map PyData.str)) := if_pos ⟨by decide, by omega⟩
  have ci := commas_in ha
  refine eq_of_wp ?_
  unfold F_roads_in
  refine wp_runP rfl ?_
  unfold X_roads_in
  by_cases cb : b = "-"
  · rw [decide_eq_true cb] at ee
    have : listIn m13 b = some [] := if_pos cb
    rw [this]
    simp -implicitDefEqProofs [ee]
    rfl
  · rw [decide_eq_false cb] at ee
    have el : listIn m13 b = if ((Txt.split b ",").map wordN).contains none = true then none else some (((Txt.split b ",").map wordN).map (·.getD 0)) := by
      unfold listIn
      rw [if_neg cb, allN_map]
      have : (Txt.split b ",").map (numM m13) = (Txt.split b ",").map wordN := List.map_congr_left fun w _ => numM_13
      rw [this]
    obtain ⟨os, hos⟩ : ∃ os, os = (Txt.split b ",").map wordN := ⟨_, rfl⟩
    rw [← hos] at el
    have inE : inP .none (.tuple (os.map endD)) = some (.bool (os.contains none)) := in_endT (o := none)
    simp -implicitDefEqProofs [ee, sp]
    refine ⟨by omega, wp_lcT (enc := PyData.str) (fun w => endD (wordN w)) (fun w hw => ?_) ?_⟩
    · have := ci.1 w hw
      have pw := p_word this.1 (by omega)
      simp -implicitDefEqProofs [pw]
    have em : (Txt.split b ",").map (fun w => endD (wordN w)) = os.map endD := by rw [hos, List.map_map]; rfl
    rw [em, el]
    by_cases cn : os.contains none = true
    · rw [cn] at inE
      rw [if_pos cn]
      simp -implicitDefEqProofs [inE]
    · have cn : os.contains none = false := by simpa using cn
      rw [cn] at inE
      rw [if_neg (by rw [cn]; decide)]
      simp -implicitDefEqProofs [inE]
      show PyData.tuple (os.map endD) = _
      rw [os_some cn]
      rfl
theorem listIn_len (h : listIn m b = some l) : l.length ≤ b.length + 1 := by
  unfold listIn at h
  split at h
  · cases h; exact Nat.zero_le _
  · have e := (allN_eq h).1
    have : (Txt.split b ",").length = l.length := by rw [e, List.length_map]
    have e2 : (Txt.split b ",").map tl = spl [44] 0 [] (tl b) := split_spl b "," (by decide) (kind_ok (by decide +kernel))
    have h3 := (spl_any (q := 44) (tl b) []).2
    rw [← e2, List.length_map, ← len_tl] at h3
    omega
theorem eq_sort (hs : own.Pairwise (· < ·)) : eqP (.list ((sortI (l.map fun (n : Nat) => (n : Int))).map PyData.int)) (.list (own.map natD)) = some (.bool (decide (l.Perm own))) := by
  have h := ne_sort (l := l) hs
  have eo : own.map natD = (own.map fun (n : Nat) => (n : Int)).map PyData.int := by rw [List.map_map]; rfl
  rw [eo] at h ⊢
  rw [neP_lay lay_I lay_I] at h
  rw [eqP_lay lay_I lay_I]
  have h := Option.some.inj h
  simp only [PyData.bool.injEq] at h
  rw [Bool.not_inj h]
theorem p_isO (hs : own.Pairwise (· < ·)) (hl : l.length ≤ 40000) : F_is_order [natsD l, .list (own.map natD)] = some (.bool (decide (l.Perm own))) := by
  have es := eq_sort (l := l) hs
  have qs := q_sort (l := l)
  refine eq_of_wp ?_
  unfold F_is_order
  refine wp_runP rfl ?_
  unfold X_is_order
  simp -implicitDefEqProofs
  refine ⟨hl, wp_lcT (fun _ => .bool true) (fun x hx => by simp -implicitDefEqProofs) ?_⟩
  simp -implicitDefEqProofs [q_all, qs, es]
theorem p_isN {d : PD} : F_is_order [.none, d] = some (.bool false) := by
  have t : isTy .tuple .none = false := rfl
  refine eq_of_wp ?_
  unfold F_is_order
  refine wp_runP rfl ?_
  unfold X_is_order
  simp -implicitDefEqProofs [t]
def rdO (own : List Nat) (w : Str) (P : List Str) (j : Nat) : PD := match (P[j]?).bind (ordOf own w) with
  | some l => natsD l
  | none => exzD 16 [natD j]
theorem p_order78 {j : Nat} (hs : ∀ x ∈ P, Sg ascB x ∧ x.length ≤ 20000) (hP : P.length ≤ 20001) (hw : w.length ≤ 100) (hf : 32 ∉ tl w) (haw : Sg ascB w) (so : own.Pairwise (· < ·)) (ho : ∀ k ∈ own, k ≤ 19) (hl : own.length ≤ 20) :
    F_read_order_c [.list (P.map PyData.str), natD j, .str w, .list (own.map natD)] = some (rdO own w P j) := by
  refine eq_of_wp ?_
  unfold F_read_order_c
  refine wp_runP rfl ?_
  unfold X_read_order_c
  unfold rdO
  by_cases hj : j < P.length
  · have gj : P[j]? = some P[j] := List.getElem?_eq_getElem hj
    rw [gj]
    have hx := hs _ (List.getElem_mem hj)
    have aj : atI (P.map PyData.str) (j : Int) = some (.str P[j]) := atI_map hj
    obtain ⟨x, ex⟩ : ∃ x, x = P[j] := ⟨_, rfl⟩
    rw [← ex] at hx aj ⊢
    show wp _ (tag (Uv.endP (tag fun d => d = match ordOf own w x with | some l => natsD l | none => exzD 16 [natD j])))
    have sp := split_gen (x := x) (by omega)
    obtain ⟨ws, hws⟩ : ∃ ws, ws = Txt.split x " " := ⟨_, rfl⟩
    have wi := words_in hx.1
    have ne : ws ≠ [] := by rw [hws]; exact split_ne x (c := 32) (by decide) (by decide)
    rw [← hws] at sp wi
    have la := atI_last ne
    have gl := wi.1 _ (List.getLast_mem ne)
    have ri := p_rin gl.1 (by omega)
    cases e : ordOf own w x with
    | some l =>
      obtain ⟨e1, p⟩ := ord_eq e
      have l20 : l.length ≤ 20 := by rw [p.length_eq]; exact hl
      have k20 : ∀ k ∈ l, k < 10 ^ 13 := fun k hk => by have := ho k (p.mem_iff.mp hk); omega
      have lg : ws.getLast ne = listS l := by
        have : ws = [w, listS l] := by rw [hws, e1, split_ordS hf]
        simp [this]
      rw [lg] at la ri
      rw [listIn_of (m := m13) (fun k hk => by have := k20 k hk; unfold m13; omega) (by decide)] at ri
      have io := p_isO (l := l) so (by omega)
      rw [decide_eq_true p] at io
      have ol := p_order_line hw k20 (by omega)
      have ee := ne_str (sg_asc hx.1)
      have eq := eq_strs (asc_ord (l := l) haw) hx.1
      rw [decide_eq_true e1.symm] at eq
      simp -implicitDefEqProofs [hj, aj, sp, la, ri, io, ol, eq]
    | none =>
      cases q : listIn m13 (ws.getLast ne) with
      | none =>
        rw [q] at ri
        have io := p_isN (d := .list (own.map natD))
        simp -implicitDefEqProofs [hj, aj, sp, la, ri, io]
      | some l =>
        rw [q] at ri
        have ll : l.length ≤ 40000 := by have := listIn_len q; omega
        by_cases p : l.Perm own
        · have io := p_isO (l := l) so ll
          rw [decide_eq_true p] at io
          have l20 : l.length ≤ 20 := by rw [p.length_eq]; exact hl
          have k20 : ∀ k ∈ l, k < 10 ^ 13 := fun k hk => by have := ho k (p.mem_iff.mp hk); omega
          have ol := p_order_line hw k20 (by omega)
          have eq := eq_strs (asc_ord (l := l) haw) hx.1
          have nx : ordS w l ≠ x := fun z => by
            rw [← z, ord_of p ho hf] at e
            cases e
          rw [decide_eq_false nx] at eq
          simp -implicitDefEqProofs [hj, aj, sp, la, ri, io, ol, eq]
        · have io := p_isO (l := l) so ll
          rw [decide_eq_false p] at io
          simp -implicitDefEqProofs [hj, aj, sp, la, ri, io]
  · have gj : P[j]? = none := List.getElem?_eq_none (by omega)
    rw [gj]
    simp -implicitDefEqProofs [hj]
end
end Fn

namespace Uv
open PySem PySem.Spec PyProof.Rows L2
section
variable {ρ : Uv.Env} {v : VE}
@[simp] theorem q_vw_hal {k : Nat} {h : HS} : (Sl.hal k h).vw = some h.pd := (rfl)
@[simp] theorem q_mk_hal {k : Nat} {h : HS} : (Sl.hal k h).mk = none := (rfl)
@[simp] theorem q_fzE_hal {k : Nat} {h : HS} {r : Uv.Env} : fzE (.hal k h :: r) 0 = .hal k h :: r := (rfl)
@[simp] theorem q_isHeld {n : Nat} {ds : List PD} : isHeld (heldD n ds) = some (n, ds) := (rfl)
@[simp] theorem q_isExz {n : Nat} {ds : List PD} : isExz (exzD n ds) = some (n, ds) := (rfl)
@[simp] theorem q_put0 {h : HS} {ws : List PD} : h.put 0 (.tuple ws) = some { h with ws := ws } := (rfl)
@[simp] theorem q_put1 {h : HS} {st : List PD} : h.put 1 (.tuple st) = some { h with st := st } := (rfl)
@[simp] theorem q_put2 {h : HS} {b : Bool} : h.put 2 (.bool b) = some { h with bz := b } := (rfl)
def exK {α : Type} (d : PD) {x y : Option α} (_ : Tag x) (_ : Tag y) : Option α := match isExz d with
  | some _ => x
  | none => y
@[simp] theorem exK_exz {α : Type} {n : Nat} {es : List PD} {x y : Option α} : exK (exzD n es) (tag x) (tag y) = x := (rfl)
@[simp] theorem isExz_t {ds : List PD} : isExz (.tuple ds) = none := (rfl)
@[simp] theorem isExz_n : isExz .none = none := (rfl)
@[simp] theorem isExz_i {i : Int} : isExz (.int i) = none := (rfl)
@[simp] theorem isExz_b {b : Bool} : isExz (.bool b) = none := (rfl)
@[simp] theorem isExz_s {x : Str} : isExz (.str x) = none := (rfl)
@[simp] theorem isExz_l {ds : List PD} : isExz (.list ds) = none := (rfl)
@[simp] theorem isExz_h {h : HS} : isExz h.pd = none := (rfl)
@[simp] theorem exK_t {α : Type} {ds : List PD} {x y : Option α} : exK (.tuple ds) (tag x) (tag y) = y := (rfl)
@[simp] theorem exK_n {α : Type} {x y : Option α} : exK .none (tag x) (tag y) = y := (rfl)
@[simp] theorem exK_i {α : Type} {i : Int} {x y : Option α} : exK (.int i) (tag x) (tag y) = y := (rfl)
@[simp] theorem exK_b {α : Type} {i : Bool} {x y : Option α} : exK (.bool i) (tag x) (tag y) = y := (rfl)
@[simp] theorem exK_s {α : Type} {i : Str} {x y : Option α} : exK (.str i) (tag x) (tag y) = y := (rfl)
@[simp] theorem q_wZM {x : XE} : wZM x ρ = (x (mk ρ)).bind fun d => some (d, ρ) := (rfl)
@[simp] theorem q_sDropZ {x : XWZ} : sDropZ x ρ = (x ρ).bind fun y => exK y.1 (tag (some (.ret y.1 y.2))) (tag (some (.nxt y.2))) := by
  unfold sDropZ exK
  congr 1
  funext y
  cases isExz y.1 <;> rfl
@[simp] theorem q_sRetZ {x : XWZ} : sRetZ x ρ = (x ρ).bind fun y => some (.ret y.1 y.2) := (rfl)
@[simp] theorem q_sAsgZ {i : Nat} {x : XWZ} : sAsgZ i x ρ = (x ρ).bind fun y => exK y.1 (tag (some (.ret y.1 y.2))) (tag (some (.nxt (y.2.set i (.dat y.1))))) := by
  unfold sAsgZ exK
  congr 1
  funext y
  cases isExz y.1 <;> rfl
@[simp] theorem q_sRz {n : Nat} {as : XA} : sRz n as ρ = (as (mk ρ)).bind fun ds => some (.ret (exzD n ds) ρ) := (rfl)
@[simp] theorem q_backs {j : Nat} {s : Sl} : backs ρ [j] [s] = (backAt ρ[j]? s).bind fun s' => some (ρ.set j s') := (rfl)
@[simp] theorem q_backAt {k i : Nat} {h h' : HS} : backAt (some (.hal k h)) (.hal i h') = some (.hal k h') := (rfl)
@[simp] theorem q_sTryH {hs : HdL} {x : XS} : sTryH hs x ρ = (x ρ).bind (tryO hs) := (rfl)
@[simp] theorem q_tryO_nxt {hs : HdL} : tryO hs (.nxt ρ) = some (.nxt ρ) := (rfl)
@[simp] theorem q_tryO_exz {hs : HdL} {n : Nat} {es : List PD} : tryO hs (.ret (exzD n es) ρ) = hdGo hs n es ρ := (rfl)
@[simp] theorem q_hdGo_nil {n : Nat} {es : List PD} : hdGo [] n es ρ = some (.ret (exzD n es) ρ) := (rfl)
@[simp] theorem q_hdGo {t : Nat → Option Bool} {i : Nat} {y : XS} {r : HdL} {n : Nat} {es : List PD} : hdGo ((t, i, y) :: r) n es ρ = (t n).bind fun b => alt b (tag (grd (i < ρ.length) ((y (ρ.set i (.dat (heldD n es)))).bind (outNo i)))) (tag (hdGo r n es ρ)) := by
  show ((t n).bind fun b => if b = true then (if i < ρ.length then _ else none) else _) = _
  congr 1
  funext b
  cases b with
  | true => show (if i < ρ.length then _ else none) = _; rw [grd_ite]; rfl
  | false => rfl
@[simp] theorem q_outNo {i : Nat} : outNo i (.nxt ρ) = some (.nxt (ρ.set i .un)) := (rfl)
@[simp] theorem q_sNoZ {x : XS} : sNoZ x ρ = (x ρ).bind noXz := (rfl)
@[simp] theorem q_noXz {ρ : Uv.Env} : noXz (.nxt ρ) = some (.nxt ρ) := (rfl)
@[simp] theorem q_isX {tab : Nat → Option Bool} {n : Nat} {es : List PD} : isX tab (heldD n es) = (tab n).bind fun b => some (.bool b) := (rfl)
@[simp] theorem q_xatD {f : Str} {n : Nat} {es : List PD} : xatD f (heldD n es) = ((exFld n).zip es).lookup f := (rfl)
@[simp] theorem q_isNone_h {n : Nat} {es : List PD} : isNone (heldD n es) = false := (rfl)
@[simp] theorem q_toSl_h {h : HS} : toSl (.hal h) = .hal 1000 h := (rfl)
end
end Uv

namespace Fn
open PySem PySem.Spec PyProof.Rows L2 Uv TL
def colZ : List PD → List PD × Option PD
  | [] => ([], none)
  | d :: ds => if (isExz d).isSome = true then ([], some d) else (d :: (colZ ds).1, (colZ ds).2)
theorem wp_lcZ {α : Type} {g : XGV} {e : XE} {v : VE} {enc : α → PD} (f : α → PD) {l : List α} {Q : List PD × Option PD → Prop} (h : ∀ x ∈ l, wp (g (enc x) v) (tag fun v1 => wp (e v1) (tag fun d => d = f x))) (hq : Q (colZ (l.map f))) : wp (lcGoZ g xYes e v (l.map enc)) (tag Q) := by
  have main : ∀ l : List α, (∀ x ∈ l, wp (g (enc x) v) (tag fun v1 => wp (e v1) (tag fun d => d = f x))) → lcGoZ g xYes e v (l.map enc) = some (colZ (l.map f)) := by
    intro l
    induction l with
    | nil => intro _; rfl
    | cons x l ih =>
      intro h
      obtain ⟨v1, e1, v2, e2, e3⟩ := h x (List.mem_cons_self ..)
      have e3 : v2 = f x := e3
      have ih := ih fun y hy => h y (List.mem_cons_of_mem _ hy)
      show (g (enc x) v).bind _ = _
      rw [e1]
      show (e v1).bind _ = _
      rw [e2, e3]
      show (if (isExz (f x)).isSome = true then some ([], some (f x)) else (lcGoZ g xYes e v (l.map enc)).bind _) = some (if _ then _ else _)
      rw [ih]
      split <;> rfl
  exact ⟨_, main l h, hq⟩
@[simp] theorem q_xLcZ {src : XI} {g : XGV} {t : XT} {e : XE} {vs : List Nat} {ρ : VE} : xLcZ src g t e vs ρ = (src ρ).bind fun xs => grd (xs.length ≤ 40000) ((lcGoZ g t e (clear ρ vs) xs).bind fun r => some (outZ r)) := by
  unfold xLcZ; simp only [grd_ite]
def xzK (f : List PD → Option PD) (d : PD) : Option PD := if (isExz d).isSome = true then some d else f [d]
@[simp] theorem q_xCBz {f : List PD → Option PD} {x : XE} {ρ : VE} : xCBz f x ρ = (x ρ).bind (xzK f) := (rfl)
def lzK (c : Str) (d : PD) : Option PD := if (isExz d).isSome = true then some d else some (.list [.str c, d])
@[simp] theorem q_xLstZ {c : Str} {x : XE} {ρ : VE} : xLstZ c x ρ = (x ρ).bind (lzK c) := (rfl)
def takeO (f : Nat → Option (List Nat)) : Nat → Nat → List (List Nat)
  | _, 0 => []
  | k, c + 1 => match f k with
    | some l => l :: takeO f (k + 1) c
    | none => []
theorem takeO_len {f : Nat → Option (List Nat)} : ∀ {c k : Nat}, (takeO f k c).length ≤ c
  | 0, k => Nat.le_refl _
  | c + 1, k => by
    show (match f k with | some l => l :: takeO f (k + 1) c | none => []).length ≤ _
    cases f k with
    | none => exact Nat.zero_le _
    | some l => exact Nat.succ_le_succ takeO_len
theorem takeO_at {f : Nat → Option (List Nat)} : ∀ {c k i : Nat} {l : List Nat}, (takeO f k c)[i]? = some l → f (k + i) = some l
  | 0, k, i, l, h => nomatch h
  | c + 1, k, i, l, h => by
    have h : (match f k with | some l => l :: takeO f (k + 1) c | none => [])[i]? = some l := h
    cases e : f k with
    | none => rw [e] at h; exact nomatch h
    | some q =>
      rw [e] at h
      cases i with
      | zero => cases h; exact e
      | succ i =>
        have := takeO_at (i := i) (k := k + 1) (c := c) (by simpa using h)
        rw [show k + (i + 1) = k + 1 + i by omega]
        exact this
theorem takeO_stop {f : Nat → Option (List Nat)} : ∀ {c k : Nat}, (takeO f k c).length < c → f (k + (takeO f k c).length) = none
  | 0, k, h => by omega
  | c + 1, k, h => by
    have e0 : takeO f k (c + 1) = (match f k with | some l => l :: takeO f (k + 1) c | none => []) := rfl
    cases e : f k with
    | none => rw [e0, e]; exact e
    | some q =>
      rw [e0, e] at h ⊢
      have h : (takeO f (k + 1) c).length < c := by simpa using h
      have := takeO_stop h
      show f (k + ((takeO f (k + 1) c).length + 1)) = none
      rw [show k + ((takeO f (k + 1) c).length + 1) = k + 1 + (takeO f (k + 1) c).length by omega]
      exact this
theorem col_take {f : Nat → Option (List Nat)} {j : Nat} : ∀ {c k : Nat}, colZ ((List.range' k c).map fun k => match f k with | some l => natsD l | none => exzD 16 [natD (j + k)]) = ((takeO f k c).map natsD, if (takeO f k c).length = c then none else some (exzD 16 [natD (j + (k + (takeO f k c).length))]))
  | 0, k => rfl
  | c + 1, k => by
    have e0 : takeO f k (c + 1) = (match f k with | some l => l :: takeO f (k + 1) c | none => []) := rfl
    rw [List.range'_succ, List.map_cons, e0]
    cases e : f k with
    | none => 
      show ([], some (exzD 16 [natD (j + k)])) = _
      rfl
    | some q =>
      have ih := col_take (f := f) (j := j) (c := c) (k := k + 1)
      show (natsD q :: (colZ _).1, (colZ _).2) = _
      rw [ih]
      show (_, _) = (_, _)
      simp only [List.map_cons, List.length_cons]
      congr 1
      by_cases h : (takeO f (k + 1) c).length = c
      · rw [if_pos h, if_pos (by omega)]
      · rw [if_neg h, if_neg (by omega), show k + 1 + (takeO f (k + 1) c).length = k + ((takeO f (k + 1) c).length + 1) by omega]
section
variable {n m v k : Nat} {l own : List Nat} {a b y s x w : Str} {r : Road} {o : Option Nat} {R : List Road} {O : List (List Nat)} {P : List Str}
def fO (R : List Road) (sd : Nat) (w : Str) (P : List Str) (j k : Nat) : Option (List Nat) := (P[j + k]?).bind (ordOf (atR R sd k) w)
def rdOs (R : List Road) (sd : Nat) (w : Str) (P : List Str) (j n : Nat) : PD := if (takeO (fO R sd w P j) 0 n).length = n then .tuple ((takeO (fO R sd w P j) 0 n).map natsD) else exzD 16 [natD (j + (takeO (fO R sd w P j) 0 n).length)]
theorem p_orders78 {j sd : Nat} (hs : ∀ x ∈ P, Sg ascB x ∧ x.length ≤ 20000) (hP : P.length ≤ 20001) (hw : w.length ≤ 100) (hf : 32 ∉ tl w) (haw : Sg ascB w) (hR : R.length ≤ 20) (hn : n ≤ 8) (hj : j ≤ 1000) :
    F_read_orders_c [.list (P.map PyData.str), natD j, .str w, .list ((R.map (side sd)).map endD), natD n] = some (rdOs R sd w P j n) := by
  obtain ⟨E, hE⟩ : ∃ E, E = (R.map (side sd)).map endD := ⟨_, rfl⟩
  have lE : E.length ≤ 20 := by rw [hE]; simp; omega
  rw [← hE]
  refine eq_of_wp ?_
  unfold F_read_orders_c
  refine wp_runP rfl ?_
  unfold X_read_orders_c
  simp -implicitDefEqProofs
  refine ⟨in62_nat (by omega), by omega, wp_lcZ (enc := natD) (fun k => rdO (atR R sd k) w P (j + k)) (fun k hk => ?_) ?_⟩
  · have hk := List.mem_range.mp hk
    have ro := p_order78 (own := atR R sd k) (j := j + k) hs hP hw hf haw (atR_sorted R sd k) (fun i hi => by have := atR_lt hi; omega) (Nat.le_trans atR_len hR)
    have ad : addP (natD j) (natD k) = some (natD (j + k)) := by
      show some (PyData.int ((j : Int) + (k : Int))) = some (PyData.int ((j + k : Nat) : Int))
      rw [Int.natCast_add]
    simp -implicitDefEqProofs [ad]
    refine ⟨by omega, ?_⟩
    rw [hE]
    refine wp_lcE (enc := endD) (fun q => q.1 == some k) (fun q => natD q.2) (fun i hi => ?_) ?_
    · have li : i < R.length := by simpa using hi
      have gm : (List.map (side sd) R)[i] = side sd R[i] := List.getElem_map ..
      simp -implicitDefEqProofs [eq_end, gm]
    · have e : ((R.map (side sd)).zipIdx.filter fun q => q.1 == some k).map (fun q => natD q.2) = (atR R sd k).map natD := by
        unfold atR
        rw [List.zipIdx_map, List.filter_map, List.map_map, List.map_map]
        rfl
      rw [e]
      simp -implicitDefEqProofs [ro]
  · have ec := col_take (f := fO R sd w P j) (j := j) (c := n) (k := 0)
    have er : (List.range n).map (fun k => rdO (atR R sd k) w P (j + k)) = (List.range' 0 n).map fun k => match fO R sd w P j k with | some l => natsD l | none => exzD 16 [natD (j + k)] := by
      rw [List.range_eq_range']
      rfl
    rw [er, ec, Nat.zero_add]
    unfold rdOs
    by_cases h : (takeO (fO R sd w P j) 0 n).length = n
    · rw [if_pos h, if_pos h]
      have ox : outZ ((takeO (fO R sd w P j) 0 n).map natsD, none) = .list ((takeO (fO R sd w P j) 0 n).map natsD) := rfl
      have tx : xzK (on1 tupP) (.list ((takeO (fO R sd w P j) 0 n).map natsD)) = some (.tuple ((takeO (fO R sd w P j) 0 n).map natsD)) := rfl
      simp -implicitDefEqProofs [ox, tx]
    · rw [if_neg h, if_neg h]
      obtain ⟨D, hD⟩ : ∃ D, D = exzD 16 [natD (j + (takeO (fO R sd w P j) 0 n).length)] := ⟨_, rfl⟩
      have ix : (isExz D).isSome = true := by rw [hD]; rfl
      rw [← hD]
      have ox : outZ ((takeO (fO R sd w P j) 0 n).map natsD, some D) = D := rfl
      have tx : xzK (on1 tupP) D = some D := if_pos ix
      simp -implicitDefEqProofs [ox, tx]
end
end Fn

namespace Fn
open PySem PySem.Spec PyProof.Rows L2 Uv TL
section
variable {n m v k : Nat} {l own : List Nat} {a b y s x w p0 : Str} {r : Road} {o : Option Nat} {R : List Road} {O : List (List Nat)} {P T : List Str}
def gO (R : List Road) (P : List Str) (n : Nat) : List (List Nat) := takeO (fO R 0 "give" P (1 + R.length)) 0 n
def tO (R : List Road) (P : List Str) (n : Nat) : List (List Nat) := takeO (fO R 1 "take" P (1 + R.length + n)) 0 n
def resN (x p0 : Str) (T : List Str) (n : Nat) : Nat ⊕ Web :=
  if takeR n (T.take 20) = [] then .inl 1 else
  if (gO (takeR n (T.take 20)) (p0 :: T) n).length ≠ n then .inl (1 + (takeR n (T.take 20)).length + (gO (takeR n (T.take 20)) (p0 :: T) n).length) else
  if (tO (takeR n (T.take 20)) (p0 :: T) n).length ≠ n then .inl (1 + (takeR n (T.take 20)).length + n + (tO (takeR n (T.take 20)) (p0 :: T) n).length) else
  if textS ⟨takeR n (T.take 20), gO (takeR n (T.take 20)) (p0 :: T) n, tO (takeR n (T.take 20)) (p0 :: T) n⟩ ≠ x then .inl (1 + (takeR n (T.take 20)).length + 2 * n) else
  .inr ⟨takeR n (T.take 20), gO (takeR n (T.take 20)) (p0 :: T) n, tO (takeR n (T.take 20)) (p0 :: T) n⟩
def resF (x : Str) : List Str → Nat ⊕ Web
  | [] => .inl 0
  | p0 :: T => match hofL p0 with
    | none => .inl 0
    | some n => resN x p0 T n
theorem resF_none (h : hofL p0 = none) : resF x (p0 :: T) = .inl 0 := by
  show (match hofL p0 with | none => Sum.inl 0 | some n => resN x p0 T n) = _
  rw [h]
theorem resF_some (h : hofL p0 = some n) : resF x (p0 :: T) = resN x p0 T n := by
  show (match hofL p0 with | none => Sum.inl 0 | some n => resN x p0 T n) = _
  rw [h]
def outR : Nat ⊕ Web → PD
  | .inl i => exzD 16 [natD i]
  | .inr W => webD W
theorem g_perm {h : Nat} (e : (gO R P n)[h]? = some l) : l.Perm (atR R 0 h) := by
  have := takeO_at e
  rw [Nat.zero_add] at this
  obtain ⟨z, _, h2⟩ := bnd this
  exact (ord_eq h2).2
theorem t_perm {h : Nat} (e : (tO R P n)[h]? = some l) : l.Perm (atR R 1 h) := by
  have := takeO_at e
  rw [Nat.zero_add] at this
  obtain ⟨z, _, h2⟩ := bnd this
  exact (ord_eq h2).2
theorem p_read78 (ha : Sg ascB x) (hl : x.length ≤ 20000) : F_read_web_c [.str x] = some (outR (resF x (Txt.split x "\n"))) := by
  obtain ⟨P, hP⟩ : ∃ P, P = Txt.split x "\n" := ⟨_, rfl⟩
  have sp : splitT (.str x) (.str "\n") = some (.list (P.map PyData.str)) := by rw [hP]; exact if_pos ⟨by decide, by omega⟩
  have pi := parts_in (x := x) (y := "\n") (c := 10) (by decide) (by decide) ha
  have ne : P ≠ [] := by rw [hP]; exact split_ne x (c := 10) (by decide) (by decide)
  rw [← hP] at pi ⊢
  obtain ⟨p0, T, rfl⟩ := List.exists_cons_of_ne_nil ne
  have hs : ∀ y ∈ p0 :: T, Sg ascB y ∧ y.length ≤ 20000 := fun y hy => ⟨(pi.1 y hy).1, by have := (pi.1 y hy).2; omega⟩
  have lP : (p0 :: T).length ≤ 20001 := by have := pi.2; omega
  have e1 : F_check_text_c [.str x] = some .none := by
    have := p_check78 (d := .str x) rfl
    rw [this]
    exact congrArg some (if_pos rfl)
  have e3 := p_houses78 (p0 := p0) (T := T.map PyData.str) (hs p0 (List.mem_cons_self ..)).1 (by rw [List.length_map]; simp at lP; omega)
  have em : (p0 :: T).map PyData.str = .str p0 :: T.map PyData.str := rfl
  rw [em] at sp
  generalize hres : resF x (p0 :: T) = res
  refine eq_of_wp ?_
  unfold F_read_web_c
  refine wp_runP rfl ?_
  unfold X_read_web_c
  cases c0 : hofL p0 with
  | none =>
    rw [c0] at e3
    rw [resF_none c0] at hres
    subst hres
    simp -implicitDefEqProofs [e1, sp, e3]
    rfl
  | some n =>
    rw [c0] at e3
    obtain ⟨_, h1, h8⟩ := hof_eq c0
    have e4 := p_roads78 (p0 := p0) (P := T) (fun y hy => hs y (List.mem_cons_of_mem _ hy)) (by simp at lP; omega) h1 h8
    rw [resF_some c0] at hres
    unfold resN at hres
    have okr := takeR_ok (n := n) (xs := T.take 20) h1
    have lR : (takeR n (T.take 20)).length ≤ 20 := Nat.le_trans takeR_len (by rw [List.length_take]; omega)
    obtain ⟨R, hR⟩ : ∃ R, R = takeR n (T.take 20) := ⟨_, rfl⟩
    rw [← hR] at e4 hres okr lR
    by_cases cR : R = []
    · rw [if_pos cR] at e4 hres
      subst hres
      simp -implicitDefEqProofs [e1, sp, e3, e4]
      rfl
    · rw [if_neg cR] at e4 hres
      have i1 : PyData.int (1 + (R.length : Int)) = natD (1 + R.length) := by
        show _ = PyData.int ((1 + R.length : Nat) : Int)
        rw [Int.natCast_add]
        rfl
      have i2 : PyData.int (1 + (R.length : Int) + (n : Int)) = natD (1 + R.length + n) := by
        show _ = PyData.int ((1 + R.length + n : Nat) : Int)
        rw [Int.natCast_add, Int.natCast_add]
        rfl
      have se : ∀ x : Road, seqP (roadD x) = some [endD x.b, endD x.e, .int x.r] := fun x => rfl
      have m0 : (R.map fun x => endD (side 0 x)) = (R.map (side 0)).map endD := by rw [List.map_map]; rfl
      have m1 : (R.map fun x => endD (side 1 x)) = (R.map (side 1)).map endD := by rw [List.map_map]; rfl
      have e5 := p_orders78 (P := p0 :: T) (R := R) (w := "give") (j := 1 + R.length) (sd := 0) (n := n) hs lP (by decide) (by decide) (sg_lit (by decide)) lR h8 (by omega)
      have e6 := p_orders78 (P := p0 :: T) (R := R) (w := "take") (j := 1 + R.length + n) (sd := 1) (n := n) hs lP (by decide) (by decide) (sg_lit (by decide)) lR h8 (by omega)
      rw [← m0, em] at e5
      rw [← m1, em] at e6
      have g0 : rdOs R 0 "give" (p0 :: T) (1 + R.length) n = if (gO R (p0 :: T) n).length = n then .tuple ((gO R (p0 :: T) n).map natsD) else exzD 16 [natD (1 + R.length + (gO R (p0 :: T) n).length)] := rfl
      have t0 : rdOs R 1 "take" (p0 :: T) (1 + R.length + n) n = if (tO R (p0 :: T) n).length = n then .tuple ((tO R (p0 :: T) n).map natsD) else exzD 16 [natD (1 + R.length + n + (tO R (p0 :: T) n).length)] := rfl
      rw [g0] at e5
      rw [t0] at e6
      simp -implicitDefEqProofs [e1, sp, e3, e4]
      refine ⟨by omega, wp_lcT (fun x => endD (side 0 x)) (fun x hx => ?_) ?_⟩
      · simp -implicitDefEqProofs [se, gvTup, gvCons, gvNil, gvName]
        rfl
      by_cases cG : (gO R (p0 :: T) n).length = n
      · rw [if_pos cG] at e5
        rw [if_neg (not_not_intro cG)] at hres
        simp -implicitDefEqProofs [i1, e5]
        refine ⟨by omega, wp_lcT (fun x => endD (side 1 x)) (fun x hx => ?_) ?_⟩
        · simp -implicitDefEqProofs [se, gvTup, gvCons, gvNil, gvName]
          rfl
        by_cases cT : (tO R (p0 :: T) n).length = n
        · rw [if_pos cT] at e6
          rw [if_neg (not_not_intro cT)] at hres
          obtain ⟨W, hW⟩ : ∃ W : Web, W = ⟨R, gO R (p0 :: T) n, tO R (p0 :: T) n⟩ := ⟨_, rfl⟩
          have hw : IsWeb W := by
            rw [hW]
            refine ⟨by rw [show (⟨R, gO R (p0 :: T) n, tO R (p0 :: T) n⟩ : Web).gives.length = n from cG]; exact ⟨h1, h8⟩, by show (tO R (p0 :: T) n).length = (gO R (p0 :: T) n).length; rw [cT, cG], ⟨List.length_pos_iff.mpr cR, lR⟩, fun y hy => by rw [show (⟨R, gO R (p0 :: T) n, tO R (p0 :: T) n⟩ : Web).gives.length = n from cG]; exact okr y hy, fun h l e => g_perm e, fun h l e => t_perm e⟩
          have ew : PyData.tuple [.tuple (R.map roadD), .tuple ((gO R (p0 :: T) n).map natsD), .tuple ((tO R (p0 :: T) n).map natsD)] = webD W := by rw [hW]; rfl
          have e7 := p_web_text hw
          have e8 := ne_strs (asc_text (W := W)) ha
          have i3 : PyData.int (1 + (R.length : Int) + 2 * (n : Int)) = natD (1 + R.length + 2 * n) := by
            show _ = PyData.int ((1 + R.length + 2 * n : Nat) : Int)
            congr 1
          rw [← hW] at hres
          simp -implicitDefEqProofs [i2, e6]
          rw [ew]
          by_cases cW : textS W = x
          · rw [decide_eq_true cW] at e8
            rw [if_neg (not_not_intro cW)] at hres
            subst hres
            simp -implicitDefEqProofs [e7, e8]
            rfl
          · rw [decide_eq_false cW] at e8
            rw [if_pos cW] at hres
            subst hres
            simp -implicitDefEqProofs [e7, e8]
            rw [i3]
            rfl
        · rw [if_neg cT] at e6
          rw [if_pos cT] at hres
          subst hres
          simp -implicitDefEqProofs [i2, e6]
          rfl
      · rw [if_neg cG] at e5
        rw [if_pos cG] at hres
        subst hres
        simp -implicitDefEqProofs [i1, e5]
        rfl
theorem res_web {W : Web} (ha : Sg ascB x) (h : resF x (Txt.split x "\n") = .inr W) : textS W = x := by
  obtain ⟨p0, T, e⟩ := List.exists_cons_of_ne_nil (split_ne x (y := "\n") (c := 10) (by decide) (by decide))
  rw [e] at h
  cases c0 : hofL p0 with
  | none => rw [resF_none c0] at h; cases h
  | some n =>
    rw [resF_some c0] at h
    unfold resN at h
    split at h
    · cases h
    · split at h
      · cases h
      · split at h
        · cases h
        · split at h
          · cases h
          · rename_i c
            cases h
            exact Classical.not_not.mp c
end
end Fn

namespace Fn
open PySem PySem.Spec PyProof.Rows L2 Uv TL
section
variable {n m v k : Nat} {x : Str} {W : Web} {d : PD}
theorem exK_l {α : Type} {ds : List PD} {x y : Option α} : exK (.list ds) (tag x) (tag y) = y := (rfl)
theorem told_no {q : PD} (h : F_read_web_c [d] = some (exzD 16 [q])) : F__law_told_w [d] = some (.list [.str "no", q]) := by
  refine eq_of_wp ?_
  unfold F__law_told_w
  refine wp_runP rfl ?_
  unfold X__law_told_w
  have x1 : xzK F_web_text (exzD 16 [q]) = some (exzD 16 [q]) := rfl
  have x2 : lzK "web" (exzD 16 [q]) = some (exzD 16 [q]) := rfl
  have e1 : em_k78_WebError 16 = some true := rfl
  have t1 : it_k78_NoText 16 = some true := rfl
  have t2 : isX4 it_k78_BadOrder it_k78_BadWeb it_k78_Broken it_k78_NoStream (heldD 16 [q]) = some (.bool false) := rfl
  have t3 : ((exFld 16).zip [q]).lookup ("line" : Str) = some q := rfl
  simp -implicitDefEqProofs [h, x1, x2, e1, t1, t2, t3]
theorem told_web (hw : IsWeb W) (h : F_read_web_c [d] = some (webD W)) : F__law_told_w [d] = some (.list [.str "web", .str (textS W)]) := by
  have wt := p_web_text hw
  have x1 : xzK F_web_text (webD W) = some (.str (textS W)) := wt
  have x2 : lzK "web" (.str (textS W)) = some (.list [.str "web", .str (textS W)]) := rfl
  refine eq_of_wp ?_
  unfold F__law_told_w
  refine wp_runP rfl ?_
  unfold X__law_told_w
  simp -implicitDefEqProofs [h, x1, x2, exK_l]
theorem read_no (t : isTy .str d = false) (f : full d = false) : F_read_web_c [d] = some (exzD 16 [.none]) := by
  have e1 := p_check78 f
  rw [t] at e1
  have e1 : F_check_text_c [d] = some (exzD 16 [.none]) := e1
  refine eq_of_wp ?_
  unfold F_read_web_c
  refine wp_runP rfl ?_
  unfold X_read_web_c
  simp -implicitDefEqProofs [e1]
theorem fault_no (t : isTy .str d = false) (f : full d = false) : F__law_text_fault_b [d] = some .none := by
  refine eq_of_wp ?_
  unfold F__law_text_fault_b
  refine wp_runP rfl ?_
  unfold X__law_text_fault_b
  simp -implicitDefEqProofs [t, f]
end
end Fn

namespace Fn
open PySem PySem.Spec PyProof.Rows L2 Uv TL
section
variable {n m v k i j : Nat} {l own : List Nat} {a b y s x w p0 : Str} {r : Road} {o : Option Nat} {R : List Road} {O : List (List Nat)} {P T : List Str} {z z' : LS}
theorem split_e : Txt.split ("" : Str) " " = ([("" : Str)] : List Str) := by decide +kernel
theorem hof_e : hofL "" = none := by unfold hofL; rw [split_e]
theorem ord_e : ordOf own w "" = none := by unfold ordOf; rw [split_e]
theorem step_e : stepL z "" = none := by
  unfold stepL
  split
  · rw [hof_e]; rfl
  · rw [split_e]
    show (if ("" : Str) = "road" then _ else _) = _
    rw [if_neg (by decide)]
    split
    · rfl
    · rw [ord_e]; rfl
theorem pre_step (hi : j < P.length) (h : runL z0L (P.take j) 0 = .inr z) (hs : stepL z P[j] = some z') : runL z0L (P.take (j + 1)) 0 = .inr z' := by
  have := (run_at hi h).1
  rw [hs] at this
  exact this
theorem fault_end (hne : P ≠ []) (h : runL z0L P 0 = .inr z) : faultT P = (P.length : Int) := by
  obtain ⟨I, e, rfl⟩ : ∃ I e, P = I ++ [e] := ⟨P.dropLast, P.getLast hne, (List.dropLast_concat_getLast hne).symm⟩
  have gl : (I ++ [e]).getLast? = some e := by simp
  have ne : e ≠ "" := fun t => by
    subst t
    rw [run_app] at h
    cases q : runL z0L I 0 with
    | inl i => rw [q] at h; cases h
    | inr z2 =>
      rw [q] at h
      have h : (match stepL z2 "" with | some z' => runL z' [] (0 + I.length + 1) | none => .inl (0 + I.length)) = Sum.inr z := h
      rw [step_e] at h
      cases h
  have eL : linesL (I ++ [e]) = I ++ [e] := by
    unfold linesL; rw [gl, if_neg (by intro t; exact ne (Option.some.inj t))]
  unfold faultT
  rw [eL, h]
  simp only [gl]
  rw [if_pos (.inr (.inr fun t => ne (Option.some.inj t)))]
theorem fault_at (hi : j < P.length) (h : runL z0L (P.take j) 0 = .inr z) (hs : stepL z P[j] = none) : faultT P = if j + 1 = P.length ∧ P.getLast? = some ("" : Str) ∧ z.n ≠ 0 ∧ ¬ z.O.length < 2 * z.n then -1 else (j : Int) := by
  have hne : P ≠ [] := fun t => by rw [t] at hi; cases hi
  have r1 := (run_at hi h).2 hs
  by_cases c : P.getLast? = some ("" : Str)
  · have eL : linesL P = P.dropLast := if_pos c
    by_cases d : j + 1 = P.length
    · have e1 : P.dropLast = P.take j := by rw [List.dropLast_eq_take]; congr 1; omega
      unfold faultT
      rw [eL, e1, h]
      simp only
      have l1 : (P.take j).length = j := by rw [List.length_take]; omega
      rw [l1]
      by_cases q : z.n = 0 ∨ z.O.length < 2 * z.n
      · rw [if_pos (q.elim .inl fun t => .inr (.inl t)), if_neg]
        rintro ⟨_, _, q1, q2⟩
        exact q.elim q1 q2
      · rw [if_neg (by rintro (t | t | t); exact q (.inl t); exact q (.inr t); exact t c), if_pos ⟨d, c, fun t => q (.inl t), fun t => q (.inr t)⟩]
    · rw [if_neg fun t => d t.1]
      have hi2 : j < P.dropLast.length := by rw [List.length_dropLast]; omega
      have h2 : runL z0L (P.dropLast.take j) 0 = .inr z := by
        rw [List.dropLast_eq_take, List.take_take, Nat.min_eq_left (by omega)]
        exact h
      have g2 : P.dropLast[j] = P[j] := by rw [List.getElem_dropLast]
      have r2 := (run_at hi2 h2).2 (by rw [g2]; exact hs)
      unfold faultT
      rw [eL, r2]
  · have eL : linesL P = P := if_neg c
    rw [if_neg fun t => c t.2.1]
    unfold faultT
    rw [eL, r1]
theorem takeR_at : ∀ {xs : List Str} {i : Nat} {r : Road}, (takeR n xs)[i]? = some r → (xs[i]?).bind (roadOf n) = some r
  | [], i, r, h => nomatch h
  | x :: xs, i, r, h => by
    have h : (match roadOf n x with | some r => r :: takeR n xs | none => [])[i]? = some r := h
    cases e : roadOf n x with
    | none => rw [e] at h; exact nomatch h
    | some q =>
      rw [e] at h
      cases i with
      | zero => cases h; exact e
      | succ i => exact takeR_at (xs := xs) (i := i) (by simpa using h)
theorem takeR_stop : ∀ {xs : List Str}, (xs[(takeR n xs).length]?).bind (roadOf n) = none
  | [] => rfl
  | x :: xs => by
    have e0 : takeR n (x :: xs) = (match roadOf n x with | some r => r :: takeR n xs | none => []) := rfl
    cases e : roadOf n x with
    | none => rw [e0, e]; exact e
    | some q =>
      rw [e0, e]
      exact takeR_stop (xs := xs)
theorem split_first (h : roadOf n x = some r) : ∃ ws, Txt.split x " " = ("road" : Str) :: ws := by
  unfold roadOf at h
  split at h
  · rename_i a b c d e
    split at h
    · rename_i ea; exact ⟨_, by rw [e, ea]⟩
    · cases h
  · cases h
theorem split_firstO (h : ordOf own w x = some l) : ∃ ws, Txt.split x " " = w :: ws := by
  unfold ordOf at h
  split at h
  · rename_i a b e
    split at h
    · rename_i ea; exact ⟨_, by rw [e, ea]⟩
    · cases h
  · cases h
theorem step_road (hn : n ≠ 0) (hR : R.length ≠ 20) (h : roadOf n x = some r) : stepL ⟨n, R, []⟩ x = some ⟨n, R ++ [r], []⟩ := by
  obtain ⟨ws, e⟩ := split_first h
  unfold stepL
  rw [if_neg hn, e]
  show (if ("road" : Str) = "road" then _ else _) = _
  rw [if_pos rfl, if_pos ⟨rfl, hR⟩, h]
  rfl
theorem wordO_road {d : Nat} : wordO d ≠ "road" := by unfold wordO; split <;> decide
theorem step_ord (hn : n ≠ 0) (hR : R ≠ []) (hO : O.length ≠ 2 * n) (h : ordOf (atR R (O.length / n) (O.length % n)) (wordO (O.length / n)) x = some l) : stepL ⟨n, R, O⟩ x = some ⟨n, R, O ++ [l]⟩ := by
  obtain ⟨ws, e⟩ := split_firstO h
  unfold stepL
  rw [if_neg hn, e]
  show (if wordO (O.length / n) = "road" then _ else _) = _
  rw [if_neg wordO_road, if_neg (by rintro (t | t); exact hR t; exact hO t), h]
  rfl
theorem step_none (hn : n ≠ 0) (h1 : O = [] → R.length ≠ 20 → roadOf n x = none) (h2 : R ≠ [] → O.length ≠ 2 * n → ordOf (atR R (O.length / n) (O.length % n)) (wordO (O.length / n)) x = none) : stepL ⟨n, R, O⟩ x = none := by
  unfold stepL
  rw [if_neg hn]
  cases e : Txt.split x " " with
  | nil => rfl
  | cons a ws =>
    simp only
    split
    · split
      · rename_i c; rw [h1 c.1 c.2]; rfl
      · rfl
    · split
      · rfl
      · rename_i c
        rw [h2 (fun t => c (.inl t)) fun t => c (.inr t)]
        rfl
end
end Fn

namespace Fn
open PySem PySem.Spec PyProof.Rows L2 Uv TL
theorem take_snoc {α : Type} {l : List α} {i : Nat} {a : α} (h : l[i]? = some a) : l.take i ++ [a] = l.take (i + 1) := by
  rw [List.take_succ, h]
  rfl
theorem takeO_split {f : Nat → Option (List Nat)} {b : Nat} : ∀ {a k : Nat}, takeO f k (a + b) = if (takeO f k a).length = a then takeO f k a ++ takeO f (k + a) b else takeO f k a
  | 0, k => by rw [Nat.zero_add]; rfl
  | a + 1, k => by
    rw [show a + 1 + b = (a + b) + 1 by omega]
    show (match f k with | some l => l :: takeO f (k + 1) (a + b) | none => []) = if (match f k with | some l => l :: takeO f (k + 1) a | none => []).length = a + 1 then (match f k with | some l => l :: takeO f (k + 1) a | none => []) ++ takeO f (k + (a + 1)) b else (match f k with | some l => l :: takeO f (k + 1) a | none => [])
    cases f k with
    | none => rw [if_neg (by simp)]
    | some l =>
      simp only
      rw [takeO_split (a := a) (k := k + 1), show k + 1 + a = k + (a + 1) by omega]
      by_cases c : (takeO f (k + 1) a).length = a
      · rw [if_pos c, if_pos (by rw [List.length_cons, c])]
        rfl
      · rw [if_neg c, if_neg (by rw [List.length_cons]; omega)]
theorem takeO_congr {f g : Nat → Option (List Nat)} : ∀ {c k : Nat}, (∀ i, k ≤ i → i < k + c → f i = g i) → takeO f k c = takeO g k c
  | 0, k, _ => rfl
  | c + 1, k, h => by
    show (match f k with | some l => l :: takeO f (k + 1) c | none => []) = (match g k with | some l => l :: takeO g (k + 1) c | none => [])
    rw [h k (Nat.le_refl _) (by omega), takeO_congr (c := c) (k := k + 1) fun i h1 h2 => h i (by omega) (by omega)]
theorem takeO_shift {f : Nat → Option (List Nat)} {a : Nat} : ∀ {c k : Nat}, takeO f (k + a) c = takeO (fun i => f (i + a)) k c
  | 0, k => rfl
  | c + 1, k => by
    show (match f (k + a) with | some l => l :: takeO f (k + a + 1) c | none => []) = (match f (k + a) with | some l => l :: takeO (fun i => f (i + a)) (k + 1) c | none => [])
    rw [show k + a + 1 = k + 1 + a by omega, takeO_shift (c := c) (k := k + 1)]
section
variable {n m v k i j : Nat} {l own : List Nat} {a b y s x w p0 : Str} {r : Road} {o : Option Nat} {R : List Road} {O : List (List Nat)} {P T : List Str} {z z' : LS}
theorem phaseB (h0 : hofL p0 = some n) : ∀ i, i ≤ (takeR n (T.take 20)).length → runL z0L ((p0 :: T).take (1 + i)) 0 = .inr ⟨n, (takeR n (T.take 20)).take i, []⟩ := by
  have hn : n ≠ 0 := by have := (hof_eq h0).2.1; omega
  have lR : (takeR n (T.take 20)).length ≤ 20 := Nat.le_trans takeR_len (by rw [List.length_take]; omega)
  have lT : (takeR n (T.take 20)).length ≤ T.length := Nat.le_trans takeR_len (by rw [List.length_take]; omega)
  intro i
  induction i with
  | zero =>
    intro _
    refine pre_step (P := p0 :: T) (j := 0) (Nat.succ_pos _) (z := z0L) rfl ?_
    show (hofL p0).map _ = _
    rw [h0]
    rfl
  | succ i ih =>
    intro hi
    have ih := ih (by omega)
    have hj : 1 + i < (p0 :: T).length := by rw [List.length_cons]; omega
    rw [show 1 + (i + 1) = 1 + i + 1 by omega]
    refine pre_step hj ih ?_
    have g : (takeR n (T.take 20))[i]? = some (takeR n (T.take 20))[i] := List.getElem?_eq_getElem (by omega)
    have ra := takeR_at g
    rw [List.getElem?_take_of_lt (by omega), List.getElem?_eq_getElem (show i < T.length by omega)] at ra
    have ra : roadOf n T[i] = some (takeR n (T.take 20))[i] := ra
    have gx : (p0 :: T)[1 + i] = T[i] := by
      have : (p0 :: T)[1 + i]? = some T[i] := by rw [Nat.add_comm, List.getElem?_cons_succ]; exact List.getElem?_eq_getElem _
      rw [List.getElem?_eq_getElem hj] at this
      exact Option.some.inj this
    rw [gx, step_road hn (by rw [List.length_take]; omega) ra]
    congr 2
    exact take_snoc g
def fC (R : List Road) (P : List Str) (n k : Nat) : Option (List Nat) := (P[1 + R.length + k]?).bind (ordOf (atR R (k / n) (k % n)) (wordO (k / n)))
theorem phaseC (hn : n ≠ 0) (hR : R ≠ []) (hB : runL z0L (P.take (1 + R.length)) 0 = .inr ⟨n, R, []⟩) : ∀ i, i ≤ (takeO (fC R P n) 0 (2 * n)).length → runL z0L (P.take (1 + R.length + i)) 0 = .inr ⟨n, R, (takeO (fC R P n) 0 (2 * n)).take i⟩ := by
  have lO : (takeO (fC R P n) 0 (2 * n)).length ≤ 2 * n := takeO_len
  intro i
  induction i with
  | zero => intro _; exact hB
  | succ i ih =>
    intro hi
    have ih := ih (by omega)
    have g : (takeO (fC R P n) 0 (2 * n))[i]? = some (takeO (fC R P n) 0 (2 * n))[i] := List.getElem?_eq_getElem (by omega)
    have ra := takeO_at g
    rw [Nat.zero_add] at ra
    obtain ⟨y, e1, e2⟩ := bnd ra
    obtain ⟨hj, e3⟩ := List.getElem?_eq_some_iff.mp e1
    have li : ((takeO (fC R P n) 0 (2 * n)).take i).length = i := by rw [List.length_take]; omega
    rw [show 1 + R.length + (i + 1) = 1 + R.length + i + 1 by omega]
    refine pre_step hj ih ?_
    rw [e3, step_ord hn hR (by rw [li]; omega) (by rw [li]; exact e2)]
    congr 2
    exact take_snoc g
theorem fC_give (hn : n ≠ 0) : takeO (fC R P n) 0 n = gO R P n := by
  unfold gO
  refine takeO_congr fun i _ hi => ?_
  unfold fC fO
  rw [Nat.div_eq_of_lt (by omega), Nat.mod_eq_of_lt (by omega)]
  rfl
theorem fC_take (hn : n ≠ 0) : takeO (fC R P n) (0 + n) n = tO R P n := by
  rw [takeO_shift]
  unfold tO
  refine takeO_congr fun i _ hi => ?_
  unfold fC fO
  have e1 : (i + n) / n = 1 := by rw [Nat.add_div_right _ (by omega), Nat.div_eq_of_lt (by omega)]
  have e2 : (i + n) % n = i := by rw [Nat.add_mod_right, Nat.mod_eq_of_lt (by omega)]
  rw [e1, e2, show 1 + R.length + (i + n) = 1 + R.length + n + i by omega]
  rfl
theorem fC_all (hn : n ≠ 0) : takeO (fC R P n) 0 (2 * n) = if (gO R P n).length = n then gO R P n ++ tO R P n else gO R P n := by
  rw [show 2 * n = n + n by omega, takeO_split, fC_give hn, fC_take hn]
end
end Fn

namespace Fn
open PySem PySem.Spec PyProof.Rows L2 Uv TL
theorem seg {α : Type} {P L : List α} {a : Nat} (h : ∀ k (hk : k < L.length), P[a + k]? = some L[k]) : P.take (a + L.length) = P.take a ++ L := by
  rw [List.take_add]
  congr 1
  refine List.ext_getElem? fun k => ?_
  by_cases hk : k < L.length
  · rw [List.getElem?_take_of_lt hk, List.getElem?_drop, h k hk, List.getElem?_eq_getElem hk]
  · rw [List.getElem?_eq_none (by rw [List.length_take]; omega), List.getElem?_eq_none (by omega)]
section
variable {n m v k i j : Nat} {l own : List Nat} {a b y s x w p0 : Str} {r : Road} {o : Option Nat} {R : List Road} {O : List (List Nat)} {P T : List Str} {z z' : LS}
theorem lines_take (h0 : hofL p0 = some n) (hR : R = takeR n (T.take 20)) (hG : (gO R (p0 :: T) n).length = n) (hT : (tO R (p0 :: T) n).length = n) : (p0 :: T).take (1 + R.length + 2 * n) = linesS ⟨R, gO R (p0 :: T) n, tO R (p0 :: T) n⟩ := by
  have hn : 1 ≤ n := (hof_eq h0).2.1
  have s1 : (p0 :: T).take (1 + (R.map roadS).length) = (p0 :: T).take 1 ++ R.map roadS := by
    refine seg fun k hk => ?_
    have hk2 : k < R.length := by rw [List.length_map] at hk; exact hk
    have g : (takeR n (T.take 20))[k]? = some R[k] := by rw [← hR]; exact List.getElem?_eq_getElem hk2
    obtain ⟨q, e1, e2⟩ := bnd (takeR_at g)
    rw [Nat.add_comm, List.getElem?_cons_succ]
    have e3 : T[k]? = some q := by
      rw [List.getElem?_take] at e1
      split at e1
      · exact e1
      · cases e1
    rw [e3, (road_eq e2 hn).1, List.getElem_map]
  have s2 : (p0 :: T).take (1 + R.length + ((gO R (p0 :: T) n).map (ordS "give")).length) = (p0 :: T).take (1 + R.length) ++ (gO R (p0 :: T) n).map (ordS "give") := by
    refine seg fun k hk => ?_
    have hk2 : k < (gO R (p0 :: T) n).length := by rw [List.length_map] at hk; exact hk
    have ra := takeO_at (List.getElem?_eq_getElem hk2)
    rw [Nat.zero_add] at ra
    obtain ⟨q, e1, e2⟩ := bnd ra
    rw [e1, (ord_eq e2).1, List.getElem_map]
  have s3 : (p0 :: T).take (1 + R.length + n + ((tO R (p0 :: T) n).map (ordS "take")).length) = (p0 :: T).take (1 + R.length + n) ++ (tO R (p0 :: T) n).map (ordS "take") := by
    refine seg fun k hk => ?_
    have hk2 : k < (tO R (p0 :: T) n).length := by rw [List.length_map] at hk; exact hk
    have ra := takeO_at (List.getElem?_eq_getElem hk2)
    rw [Nat.zero_add] at ra
    obtain ⟨q, e1, e2⟩ := bnd ra
    rw [e1, (ord_eq e2).1, List.getElem_map]
  rw [List.length_map] at s1 s2 s3
  rw [hG] at s2
  rw [hT] at s3
  rw [show 1 + R.length + 2 * n = 1 + R.length + n + n by omega, s3, s2, s1]
  unfold linesS
  simp only
  rw [hG, ← (hof_eq h0).1]
  simp
theorem text_iff (hP : p0 :: T = Txt.split x "\n") (h0 : hofL p0 = some n) (hR : R = takeR n (T.take 20)) (hG : (gO R (p0 :: T) n).length = n) (hT : (tO R (p0 :: T) n).length = n) :
    textS ⟨R, gO R (p0 :: T) n, tO R (p0 :: T) n⟩ = x ↔ (1 + R.length + 2 * n + 1 = (p0 :: T).length ∧ (p0 :: T).getLast? = some ("" : Str)) := by
  have lt := lines_take h0 hR hG hT
  have lL : (linesS ⟨R, gO R (p0 :: T) n, tO R (p0 :: T) n⟩).length = 1 + R.length + 2 * n := by
    unfold linesS
    simp only [List.length_cons, List.length_append, List.length_map]
    rw [hG, hT]
    omega
  have sj : Txt.split (textS ⟨R, gO R (p0 :: T) n, tO R (p0 :: T) n⟩) "\n" = linesS ⟨R, gO R (p0 :: T) n, tO R (p0 :: T) n⟩ ++ [("" : Str)] := by
    rw [text_join]
    refine split_of (c := 10) (by decide) (by decide) (by simp) fun p hp => ?_
    rcases List.mem_append.mp hp with h | h
    · exact free10_lines p h
    · rw [List.mem_singleton.mp h]; decide
  constructor
  · intro e
    rw [e, ← hP] at sj
    rw [sj]
    refine ⟨by rw [List.length_append, lL]; rfl, by simp⟩
  · rintro ⟨e1, e2⟩
    have e3 : p0 :: T = linesS ⟨R, gO R (p0 :: T) n, tO R (p0 :: T) n⟩ ++ [("" : Str)] := by
      rw [← lt]
      have ne : p0 :: T ≠ [] := by simp
      have := List.dropLast_concat_getLast ne
      rw [List.getLast?_eq_some_getLast ne] at e2
      rw [Option.some.inj e2, List.dropLast_eq_take, show (p0 :: T).length - 1 = 1 + R.length + 2 * n by omega] at this
      exact this.symm
    rw [text_join, ← e3, hP, join_of]
def agreeB (P : List Str) : Nat ⊕ Web → Prop
  | .inl i => faultT P = (i : Int)
  | .inr _ => faultT P = -1
theorem agree : agreeB (Txt.split x "\n") (resF x (Txt.split x "\n")) := by
  obtain ⟨p0, T, e⟩ := List.exists_cons_of_ne_nil (split_ne x (y := "\n") (c := 10) (by decide) (by decide))
  rw [e]
  have hP := e.symm
  cases c0 : hofL p0 with
  | none =>
    rw [resF_none c0]
    have := fault_at (P := p0 :: T) (j := 0) (z := z0L) (Nat.succ_pos _) rfl (by show (hofL p0).map _ = none; rw [c0]; rfl)
    show faultT (p0 :: T) = ((0 : Nat) : Int)
    rw [this, if_neg fun t => t.2.2.1 rfl]
  | some n =>
    rw [resF_some c0]
    have hn1 := (hof_eq c0).2.1
    have hn : n ≠ 0 := by omega
    unfold resN
    have hB := phaseB (T := T) c0
    have lR : (takeR n (T.take 20)).length ≤ 20 := Nat.le_trans takeR_len (by rw [List.length_take]; omega)
    have lT : (takeR n (T.take 20)).length ≤ T.length := Nat.le_trans takeR_len (by rw [List.length_take]; omega)
    have stop := takeR_stop (n := n) (xs := T.take 20)
    obtain ⟨R, hR⟩ : ∃ R, R = takeR n (T.take 20) := ⟨_, rfl⟩
    rw [← hR] at hB lR lT stop ⊢
    have roadN : ∀ y, R.length ≠ 20 → (p0 :: T)[1 + R.length]? = some y → roadOf n y = none := fun y h20 hy => by
      rw [Nat.add_comm, List.getElem?_cons_succ] at hy
      rw [List.getElem?_take_of_lt (by omega), hy] at stop
      exact stop
    by_cases cR : R = []
    · rw [if_pos cR]
      show faultT (p0 :: T) = ((1 : Nat) : Int)
      have h1 := hB 0 (Nat.zero_le _)
      rw [List.take_zero] at h1
      by_cases cT : 1 < (p0 :: T).length
      · have hs : stepL ⟨n, [], []⟩ (p0 :: T)[1] = none := step_none hn (fun _ _ => roadN _ (by rw [cR]; decide) (by rw [cR]; exact List.getElem?_eq_getElem cT)) fun t => absurd rfl t
        rw [fault_at cT h1 hs, if_neg]
        rintro ⟨_, _, _, t⟩
        simp only [List.length_nil] at t
        omega
      · have l1 : (p0 :: T).length = 1 := by rw [List.length_cons] at cT ⊢; omega
        have h2 : runL z0L (p0 :: T) 0 = .inr ⟨n, [], []⟩ := by
          rw [List.take_of_length_le (by omega)] at h1
          exact h1
        rw [fault_end (by simp) h2, l1]
    · rw [if_neg cR]
      have hB1 := hB R.length (Nat.le_refl _)
      rw [List.take_length] at hB1
      have hC := phaseC hn cR hB1
      have lO : (takeO (fC R (p0 :: T) n) 0 (2 * n)).length ≤ 2 * n := takeO_len
      have ostop : (takeO (fC R (p0 :: T) n) 0 (2 * n)).length < 2 * n → fC R (p0 :: T) n (takeO (fC R (p0 :: T) n) 0 (2 * n)).length = none := fun h => by
        have := takeO_stop h
        rwa [Nat.zero_add] at this
      have oat : ∀ i, i < (takeO (fC R (p0 :: T) n) 0 (2 * n)).length → 1 + R.length + i < (p0 :: T).length := fun i hi => by
        have ra := takeO_at (List.getElem?_eq_getElem hi)
        rw [Nat.zero_add] at ra
        obtain ⟨q, e1, _⟩ := bnd ra
        exact (List.getElem?_eq_some_iff.mp e1).1
      have eall := fC_all (R := R) (P := p0 :: T) hn
      obtain ⟨os, hos⟩ : ∃ os, os = takeO (fC R (p0 :: T) n) 0 (2 * n) := ⟨_, rfl⟩
      rw [← hos] at hC lO ostop oat eall
      have hm := hC os.length (Nat.le_refl _)
      rw [List.take_length] at hm
      have lm : 1 + R.length + os.length ≤ (p0 :: T).length := by
        by_cases c : os.length = 0
        · rw [c, List.length_cons]; omega
        · have := oat (os.length - 1) (by omega); omega
      -- the fault where the orders are not whole
      have short : os.length < 2 * n → faultT (p0 :: T) = ((1 + R.length + os.length : Nat) : Int) := fun h => by
        by_cases c : 1 + R.length + os.length < (p0 :: T).length
        · have gy : (p0 :: T)[1 + R.length + os.length]? = some (p0 :: T)[1 + R.length + os.length] := List.getElem?_eq_getElem c
          have hs : stepL ⟨n, R, os⟩ (p0 :: T)[1 + R.length + os.length] = none := step_none hn (fun e0 h20 => roadN _ h20 (by rw [← gy, e0]; rfl)) fun _ _ => by
            have := ostop h
            unfold fC at this
            rw [gy] at this
            exact this
          rw [fault_at c hm hs, if_neg]
          rintro ⟨_, _, _, t⟩
          exact t h
        · have l1 : (p0 :: T).length = 1 + R.length + os.length := by omega
          rw [List.take_of_length_le (by omega)] at hm
          rw [fault_end (by simp) hm, l1]
      by_cases cG : (gO R (p0 :: T) n).length = n
      · rw [if_pos cG] at eall
        rw [if_neg (not_not_intro cG)]
        have ol : os.length = n + (tO R (p0 :: T) n).length := by rw [eall, List.length_append, cG]
        by_cases cT : (tO R (p0 :: T) n).length = n
        · rw [if_neg (not_not_intro cT)]
          have ti := text_iff hP c0 hR cG cT
          have o2 : os.length = 2 * n := by omega
          rw [o2] at hm lm
          have ne0 : os ≠ [] := fun t => by rw [t] at o2; simp at o2; omega
          by_cases c : 1 + R.length + 2 * n < (p0 :: T).length
          · have hs : stepL ⟨n, R, os⟩ (p0 :: T)[1 + R.length + 2 * n] = none := step_none hn (fun e0 => absurd e0 ne0) fun _ t => absurd o2 t
            have fa := fault_at c hm hs
            by_cases cW : textS ⟨R, gO R (p0 :: T) n, tO R (p0 :: T) n⟩ = x
            · rw [if_neg (not_not_intro cW)]
              have := ti.mp cW
              show faultT (p0 :: T) = -1
              rw [fa, if_pos ⟨this.1, this.2, hn, by show ¬ os.length < 2 * n; omega⟩]
            · rw [if_pos cW]
              show faultT (p0 :: T) = ((1 + R.length + 2 * n : Nat) : Int)
              rw [fa, if_neg fun t => cW (ti.mpr ⟨t.1, t.2.1⟩)]
          · have l1 : (p0 :: T).length = 1 + R.length + 2 * n := by omega
            rw [List.take_of_length_le (by omega)] at hm
            have cW : ¬ textS ⟨R, gO R (p0 :: T) n, tO R (p0 :: T) n⟩ = x := fun t => by have := (ti.mp t).1; omega
            rw [if_pos cW]
            show faultT (p0 :: T) = ((1 + R.length + 2 * n : Nat) : Int)
            rw [fault_end (by simp) hm, l1]
        · rw [if_pos cT]
          have lt : (tO R (p0 :: T) n).length ≤ n := takeO_len
          have := short (by omega)
          show faultT (p0 :: T) = ((1 + R.length + n + (tO R (p0 :: T) n).length : Nat) : Int)
          rw [this, ol]
          congr 1
          omega
      · rw [if_neg cG] at eall
        rw [if_pos cG]
        have lg : (gO R (p0 :: T) n).length ≤ n := takeO_len
        have := short (by rw [eall]; omega)
        show faultT (p0 :: T) = ((1 + R.length + (gO R (p0 :: T) n).length : Nat) : Int)
        rw [this, eall]
end
end Fn

namespace Fn
open PySem PySem.Spec PyProof.Rows L2 Uv TL
theorem chr_ok78 (c : Char) : c.toNat < 0x110000 := by
  have := c.valid
  rcases this with h | ⟨_, h⟩
  · show c.val.toNat < _
    have h : c.val.toNat < 0xd800 := h
    omega
  · exact h
theorem reprChar_ok78 {q c : Nat} (hq : q < 0x110000) (hc : c < 0x110000) : ∀ d ∈ PySem.Builtin.Str.reprChar q c, d < 0x110000 := by
  have hx : ∀ w, ∀ d ∈ List.replicate (w - ((Nat.toDigits 16 c).map Char.toNat).length) 48 ++ (Nat.toDigits 16 c).map Char.toNat, d < 0x110000 := fun w d hd => by
    rcases List.mem_append.mp hd with h | h
    · rw [List.eq_of_mem_replicate h]; decide
    · obtain ⟨x, _, rfl⟩ := List.mem_map.mp h
      exact chr_ok78 x
  have h2 := hx 2
  have h4 := hx 4
  have h8 := hx 8
  intro d hd
  unfold PySem.Builtin.Str.reprChar at hd
  dsimp only at hd
  repeat' split at hd
  all_goals (first
    | (simp only [List.mem_cons, List.not_mem_nil, or_false] at hd; omega)
    | (rcases List.mem_append.mp hd with h | h
       · simp only [List.mem_cons, List.not_mem_nil, or_false] at h; omega
       · first | exact h2 d h | exact h4 d h | exact h8 d h))
theorem fold_ok78 {q : Nat} (hq : q < 0x110000) : ∀ (l : List Nat) (acc : Array Nat), (∀ c ∈ l, c < 0x110000) → (∀ c ∈ acc.toList, c < 0x110000) → ∀ c ∈ (l.foldl (fun out c => out ++ (PySem.Builtin.Str.reprChar q c).toArray) acc).toList, c < 0x110000
  | [], acc, _, h => h
  | c :: r, acc, hl, h => by
    rw [List.foldl_cons]
    refine fold_ok78 hq r _ (fun d hd => hl d (List.mem_cons_of_mem _ hd)) fun d hd => ?_
    rw [Array.toList_append] at hd
    rcases List.mem_append.mp hd with z | z
    · exact h d z
    · exact reprChar_ok78 hq (hl c (List.mem_cons_self ..)) d z
theorem quote_ok78 {x : Str} : PySem.reprQuote x < 0x110000 := by
  unfold PySem.reprQuote
  split <;> decide
theorem sho_str78 {k : Nat} {x : Str} (h : PyData.strOk x = true) : Sho k (10 * x.length + 2) (.str x) := by
  have h1 : ∀ c ∈ x.cps.toList, c < 0x110000 := by
    unfold PyData.strOk at h
    rw [Array.all_eq_true'] at h
    intro c hc
    exact of_decide_eq_true (h c (by simpa using hc))
  refine ⟨rfl, rfl, Nat.zero_le _, ?_, ?_⟩
  · exact PySem.StrLaws.reprText_len x fun c hc => by have := h1 c hc; omega
  · show PyData.strOk (PySem.reprText x) = true
    unfold PyData.strOk PySem.reprText
    rw [Array.all_eq_true']
    intro c hc
    rw [Array.mem_push, ← Array.mem_toList_iff, ← Array.foldl_toList] at hc
    rcases hc with hc | hc
    · exact decide_eq_true (fold_ok78 quote_ok78 x.cps.toList _ h1 (fun c hc => by
        have : c ∈ [PySem.reprQuote x] := hc
        rw [List.mem_singleton.mp this]
        exact quote_ok78) c hc)
    · rw [hc]; exact decide_eq_true quote_ok78
section
variable {n m v k i j : Nat} {l own : List Nat} {a b y s x w p0 : Str} {r : Road} {o : Option Nat} {R : List Road} {O : List (List Nat)} {P T : List Str} {W : Web} {d : PD}
theorem res_isWeb (h : resF x P = .inr W) : IsWeb W := by
  cases P with
  | nil => cases h
  | cons p0 T =>
    cases c0 : hofL p0 with
    | none => rw [resF_none c0] at h; cases h
    | some n =>
      rw [resF_some c0] at h
      obtain ⟨_, h1, h8⟩ := hof_eq c0
      have okr := takeR_ok (n := n) (xs := T.take 20) h1
      have lR : (takeR n (T.take 20)).length ≤ 20 := Nat.le_trans takeR_len (by rw [List.length_take]; omega)
      unfold resN at h
      generalize takeR n (T.take 20) = R at okr lR h
      split at h
      · cases h
      · rename_i cR
        split at h
        · cases h
        · rename_i cG
          have cG := Classical.not_not.mp cG
          split at h
          · cases h
          · rename_i cT
            have cT := Classical.not_not.mp cT
            split at h
            · cases h
            · cases h
              refine ⟨?_, ?_, ⟨List.length_pos_iff.mpr cR, lR⟩, fun y hy => ?_, fun h l e => g_perm e, fun h l e => t_perm e⟩
              · show 1 ≤ (gO R (p0 :: T) n).length ∧ (gO R (p0 :: T) n).length ≤ 8
                rw [cG]; exact ⟨h1, h8⟩
              · show (tO R (p0 :: T) n).length = (gO R (p0 :: T) n).length
                rw [cT, cG]
              · show OkRoad (gO R (p0 :: T) n).length y
                rw [cG]; exact okr y hy
theorem res_le (h : resF x P = .inl i) : i ≤ 100 := by
  cases P with
  | nil => cases h; decide
  | cons p0 T =>
    cases c0 : hofL p0 with
    | none => rw [resF_none c0] at h; cases h; decide
    | some n =>
      rw [resF_some c0] at h
      obtain ⟨_, h1, h8⟩ := hof_eq c0
      have lR : (takeR n (T.take 20)).length ≤ 20 := Nat.le_trans takeR_len (by rw [List.length_take]; omega)
      unfold resN at h
      generalize takeR n (T.take 20) = R at lR h
      have lg : (gO R (p0 :: T) n).length ≤ n := takeO_len
      have lt : (tO R (p0 :: T) n).length ≤ n := takeO_len
      split at h
      · cases h; decide
      · split at h
        · cases h; omega
        · split at h
          · cases h; omega
          · split at h
            · cases h; omega
            · cases h
def noD78 (d : PD) : PD := .list [.str "no", d]
theorem sho_no78 (h : Sho 1 60 d) : Sho 60 10000000 (noD78 d) := (Sho.lst (k := 1) (n := 60) (L := 2) (fun e he => by
  simp only [List.mem_cons, List.not_mem_nil, or_false] at he
  rcases he with rfl | rfl
  · exact (sho_str78 (k := 1) (by decide +kernel)).mono (by decide) (by decide)
  · exact h) (by simp)).mono (by decide) (by decide)
theorem sho_web78 (ha : Sg ascB x) (hl : x.length ≤ 20000) : Sho 60 10000000 (.list [.str "web", .str x]) := (Sho.lst (k := 1) (n := 200010) (L := 2) (fun e he => by
  simp only [List.mem_cons, List.not_mem_nil, or_false] at he
  rcases he with rfl | rfl
  · exact (sho_str78 (k := 1) (by decide +kernel)).mono (by decide) (by decide)
  · exact (sho_str78 (k := 1) (sg_asc ha)).mono (by decide) (by omega)) (by simp)).mono (by decide) (by decide)
def Ask78 (d : PD) : Prop := (∃ y, d = .str y ∧ Sg ascB y ∧ y.length ≤ 20000) ∨ (isTy .str d = false ∧ Uv.full d = false)
theorem ask78 (h : Ask78 d) : ∃ (f r : PD) (c : Bool), F__law_text_fault_b [d] = some f ∧ eqP f (.int (-1)) = some (.bool c) ∧ F__law_told_w [d] = some r ∧ r = (if c = true then .list [.str "web", d] else noD78 f) ∧ Sho 60 10000000 r := by
  rcases h with ⟨y, rfl, ha, hl⟩ | ⟨t, fu⟩
  · have e1 := l_fault ha hl
    have e2 := p_read78 ha hl
    have ag := agree (x := y)
    have pl := parts_in (x := y) (y := "\n") (c := 10) (by decide) (by decide) ha
    cases e : resF y (Txt.split y "\n") with
    | inl i =>
      rw [e] at e2 ag
      have ag : faultT (Txt.split y "\n") = (i : Int) := ag
      rw [ag] at e1
      refine ⟨.int i, noD78 (natD i), false, e1, ?_, told_no e2, rfl, sho_no78 ((Sho.nat (k := 1) (Nat.lt_of_le_of_lt (res_le e) (by decide))).mono (by decide) (by decide))⟩
      show some (PyData.bool ((i : Int) == -1)) = _
      rw [beq_eq_false_iff_ne.mpr (by omega)]
    | inr W =>
      rw [e] at e2 ag
      have ag : faultT (Txt.split y "\n") = -1 := ag
      rw [ag] at e1
      have tw := res_web ha e
      have to := told_web (res_isWeb e) e2
      rw [tw] at to
      exact ⟨_, _, true, e1, rfl, to, rfl, sho_web78 ha hl⟩
  · exact ⟨_, _, false, fault_no t fu, rfl, told_no (read_no t fu), rfl, sho_no78 ((Sho.non (k := 1)).mono (by decide) (by decide))⟩
end
end Fn

namespace Fn
open PySem PySem.Spec PyProof.Rows L2 Uv TL
section
variable {n m v k i j : Nat} {l own : List Nat} {a b y s x w p0 : Str} {P T : List Str} {W : Web} {d : PD}
theorem lens2 : ∀ {l : List Nat}, (∀ k ∈ l, k < 20) → ((l.map numS).map (·.length)).sum ≤ l.length * 2
  | [], _ => Nat.le_refl _
  | x :: l, h => by
    have h3 := lens2 (l := l) fun k hk => h k (List.mem_cons_of_mem _ hk)
    have h4 : (numS x).length ≤ 2 := by
      rw [len_tl, tl_numS]
      have := h x (List.mem_cons_self ..)
      exact numL_len (by decide) (by omega)
    rw [List.map_cons, List.map_cons, List.sum_cons, List.length_cons]
    omega
theorem len_list2 (h : ∀ k ∈ l, k < 20) (hl : l.length ≤ 20) : (listS l).length ≤ 60 := by
  unfold listS
  split
  · decide
  · rw [join_eq]
    have h1 := StrLaws.join_length_le "," (l.map numS)
    have h2 := lens2 h
    have h3 : (",": Str).length = 1 := by decide
    rw [h3, List.length_map] at h1
    omega
theorem len_ord2 {w : Str} (hw : w.length ≤ 9) (h : ∀ k ∈ l, k < 20) (hl : l.length ≤ 20) : (ordS w l).length ≤ 70 := by
  have l2 := len_list2 h hl
  have l6 : (" " : Str).length = 1 := by decide
  unfold ordS
  simp only [len_app, l6]
  omega
theorem lines_len2 (hw : IsWeb W) : ∀ x ∈ linesS W, x.length ≤ 70 := fun x hx => by
  have hh := hw.houses
  unfold linesS at hx
  rcases List.mem_cons.mp hx with rfl | hx
  · have l3 := len_numS (n := W.gives.length) (Nat.lt_of_le_of_lt hh.2 (by decide))
    have l5 : ("houses " : Str).length = 7 := by decide
    unfold housS
    simp only [len_app, l5]
    omega
  · rcases List.mem_append.mp hx with hx | hx
    · obtain ⟨r, hr, rfl⟩ := List.mem_map.mp hx
      exact Nat.le_trans (len_road (okr_of (hw.road r hr) hh.2)) (by decide)
    · rcases List.mem_append.mp hx with hx | hx
      · obtain ⟨l, hl, rfl⟩ := List.mem_map.mp hx
        have := ord_lim hw (.inl hl)
        exact len_ord2 (by decide) this.1 this.2
      · obtain ⟨l, hl, rfl⟩ := List.mem_map.mp hx
        have := ord_lim hw (.inr hl)
        exact len_ord2 (by decide) this.1 this.2
theorem len_text2 (hw : IsWeb W) : (textS W).length ≤ 3000 := by
  have lm := lines_many hw
  have h0 : ("" : Str).length = 0 := by decide
  unfold textS
  rw [join_eq]
  have h1 := StrLaws.join_length_le "" ((linesS W).map fun x : Str => x ++ ("\n" : Str))
  have h2 := sum_leT (b := 71) (ls := (linesS W).map fun x : Str => x ++ ("\n" : Str)) fun x hx => by
    obtain ⟨y, hy, rfl⟩ := List.mem_map.mp hx
    have := lines_len2 hw y hy
    have h3 : ("\n" : Str).length = 1 := by decide
    rw [len_app, h3]
    omega
  rw [h0, List.length_map] at h1
  rw [List.length_map] at h2
  have h3 := Nat.mul_le_mul_right 71 lm
  omega
def totS (ps : List Str) : Nat := (ps.map fun p => p.length + 1).sum
theorem totS_app {a b : List Str} : totS (a ++ b) = totS a + totS b := by unfold totS; rw [List.map_append, List.sum_append]
theorem totS_one : totS [x] = x.length + 1 := by unfold totS; simp
theorem totS_sum {ps : List Str} : (ps.map (·.length)).sum + ps.length = totS ps := by
  unfold totS
  induction ps with
  | nil => rfl
  | cons p ps ih => simp only [List.map_cons, List.sum_cons, List.length_cons]; omega
theorem totS_cut (ps : List Str) (k : Nat) : totS (ps.take k) + totS (ps.drop k) = totS ps := by rw [← totS_app, List.take_append_drop]
theorem totS_at {ps : List Str} (hk : k < ps.length) : totS (ps.take k) + (ps[k].length + 1) + totS (ps.drop (k + 1)) = totS ps := by
  have := totS_cut ps k
  rw [List.drop_eq_getElem_cons hk, show ps[k] :: ps.drop (k + 1) = [ps[k]] ++ ps.drop (k + 1) from rfl, totS_app, totS_one] at this
  omega
theorem len_join {ps : List Str} {y : Str} (hy : y.length = 1) : (Txt.join y ps).length ≤ totS ps := by
  have h1 := StrLaws.join_length_le y ps
  rw [hy] at h1
  rw [join_eq, ← totS_sum]
  omega
theorem spl_tot {q : Nat} : ∀ (l acc : List Nat), ((spl [q] 0 acc l).map fun p => p.length + 1).sum = acc.length + l.length + 1
  | [], acc => by rw [spl_nil]; simp
  | c :: r, acc => by
    by_cases z : c = q
    · have h : pre [q] (c :: r) = true := by rw [z]; exact pre_self [q] r
      rw [spl_hit h]
      have ih := spl_tot (q := q) r []
      show (acc.length + 1) + ((spl [q] 0 [] r).map fun p => p.length + 1).sum = _
      rw [ih, List.length_cons, List.length_nil]
      omega
    · have h : pre [q] (c :: r) = false := pre_of_head [] r z
      rw [spl_miss h, spl_tot (q := q) r (acc ++ [c])]
      simp
      omega
theorem totS_split {c : Nat} (ey : tl y = [c]) (hc : c < 256) : totS (Txt.split x y) = x.length + 1 := by
  have e : (Txt.split x y).map tl = spl (tl y) 0 [] (tl x) := split_spl x y (by rw [ey]; simp) (kind_ok (by rw [← Array.all_toList]; show (tl y).all _ = true; rw [ey]; simp [hc]))
  rw [ey] at e
  have h := spl_tot (q := c) (tl x) []
  rw [← e, List.map_map] at h
  have e2 : (Txt.split x y).map ((fun p : List Nat => p.length + 1) ∘ tl) = (Txt.split x y).map fun p => p.length + 1 := List.map_congr_left fun p _ => by show (tl p).length + 1 = _; rw [← len_tl]
  rw [e2, ← len_tl, List.length_nil, Nat.zero_add] at h
  exact h
theorem asc_join {ps : List Str} (hy : Sg ascB y) (h : ∀ p ∈ ps, Sg ascB p) : Sg ascB (Txt.join y ps) := sg_join hy h
theorem signs30 : ∀ r, r < 30 → ∃ c, c < 128 ∧ ixT (.str " -,0123456789\nadehgiknorstuv:x") (natD r) = some (.str ⟨#[c]⟩) := fun r hr => by
  have hl : (tl (" -,0123456789\nadehgiknorstuv:x" : Str)).length = 30 := by decide
  have hz : (" -,0123456789\nadehgiknorstuv:x" : Str).length ≤ 16000000 := by rw [len_tl, hl]; decide
  refine ⟨(tl (" -,0123456789\nadehgiknorstuv:x" : Str))[r]'(by omega), ?_, ?_⟩
  · have : ∀ c ∈ tl (" -,0123456789\nadehgiknorstuv:x" : Str), c < 128 := by decide +kernel
    exact this _ (List.getElem_mem _)
  · show (if (" -,0123456789\nadehgiknorstuv:x" : Str).length ≤ 16000000 then (L2.atI (tl (" -,0123456789\nadehgiknorstuv:x" : Str)) (r : Int)).map (fun c => PyData.str ⟨#[c]⟩) else none) = _
    rw [if_pos hz, atI_at (show r < (tl (" -,0123456789\nadehgiknorstuv:x" : Str)).length by omega)]
    rfl
theorem a_sign {b : Nat} {cs : List Cel} {Q : PD × List Cel → Prop} (h : DkA b cs) (hb : b ≤ 2 ^ 40) (hq : ∀ y cs', Sg ascB y → y.length = 1 → DkA (b + 1) cs' → Q (.str y, cs')) : wp (F__law_sign_b cs []) (tag Q) := by
  unfold F__law_sign_b
  refine wp_runW rfl ?_
  unfold X__law_sign_b
  have g : lenT (.str " -,0123456789\nadehgiknorstuv:x") = some (.int 30) := by kernel_rfl
  simp -implicitDefEqProofs [g]
  refine a_next (m := 30) h hb (by omega) (by omega) fun r cs' hr d => ?_
  obtain ⟨c, hc, e⟩ := signs30 r (by omega)
  simp -implicitDefEqProofs [e]
  refine hq _ _ (fun k hk => ?_) rfl d
  have : k = c := List.mem_singleton.mp hk
  rw [this]
  exact decide_eq_true hc
end
end Fn
namespace Fn
open PySem PySem.Spec PyProof.Rows L2 Uv TL
section
variable {x : Str}
theorem q_xSlS78 {a : XE} {lo hi : XO} {v : VE} : xSlS a lo hi v = (a v).bind fun d => (lo v).bind fun l => (hi v).bind fun h => slS d l h := rfl
theorem sl_s78 {lo hi : Option Int} (h : x.length ≤ 16000000) : slS (.str x) lo hi = some (.str (cutS x lo hi)) := if_pos h
theorem asc_cut78 {lo hi : Option Int} (h : Sg ascB x) : Sg ascB (cutS x lo hi) := fun c hc => h c (List.mem_of_mem_drop (List.mem_of_mem_take (show c ∈ ((tl x).drop _).take _ from hc)))
theorem take_drop1 {α : Type} {l : List α} {i : Nat} (h : i < l.length) : (l.take (i + 1)).drop i = [l[i]] := by
  rw [List.drop_take, show i + 1 - i = 1 by omega, List.drop_eq_getElem_cons h]
  rfl
theorem a_spoilt {b : Nat} {cs : List Cel} {Q : PD × List Cel → Prop} (h : DkA b cs) (hb : b + 10 ≤ 2 ^ 40) (ha : Sg ascB x) (hl : x.length ≤ 8000) (hq : ∀ y cs', Sg ascB y → y.length ≤ 2 * x.length + 3 → DkA (b + 10) cs' → Q (.str y, cs')) : wp (F__law_spoilt_c cs [.str x]) (tag Q) := by
  have g : lenT (.str x) = some (natD x.length) := if_pos (by omega)
  have p1 : ∀ k : Nat, addX (natD k) (.int 1) = some (natD (k + 1)) := fun k => rfl
  obtain ⟨P, hP⟩ : ∃ P, P = Txt.split x "\n" := ⟨_, rfl⟩
  have sp : splitT (.str x) (.str "\n") = some (.list (P.map PyData.str)) := by rw [hP]; exact if_pos ⟨by decide, by omega⟩
  have pi := parts_in (x := x) (y := "\n") (c := 10) (by decide) (by decide) ha
  have ne : P ≠ [] := by rw [hP]; exact split_ne x (c := 10) (by decide) (by decide)
  have tP : totS P = x.length + 1 := by rw [hP]; exact totS_split (c := 10) (by decide) (by decide)
  rw [← hP] at pi
  have pl : 0 < P.length := List.length_pos_iff.mpr ne
  have ad : ∀ xs ys : List PD, xs.length ≤ 20000 → ys.length ≤ 20000 → addX (.list xs) (.list ys) = some (.list (xs ++ ys)) := fun xs ys h1 h2 => if_pos (by omega)
  have l1 : ("\n" : Str).length = 1 := by decide
  have l1b : (" " : Str).length = 1 := by decide
  -- lines put together anew
  have jn : ∀ ys : List Str, (∀ p ∈ ys, Sg ascB p) → totS ys ≤ 2 * x.length + 3 → ∃ G, joinT (.str "\n") (.list (ys.map PyData.str)) = some (.str G) ∧ Sg ascB G ∧ G.length ≤ 2 * x.length + 3 := fun ys h1 h2 => by
    refine ⟨Txt.join "\n" ys, join_f ?_, asc_join (sg_lit (by decide)) h1, Nat.le_trans (len_join l1) h2⟩
    rw [l1, Nat.mul_one, totS_sum]
    omega
  unfold F__law_spoilt_c
  refine wp_runW rfl ?_
  unfold X__law_spoilt_c
  simp -implicitDefEqProofs
  refine a_next (m := 9) h (by omega) (by omega) (by omega) fun way cs1 hw d1 => ?_
  simp -implicitDefEqProofs [g, p1]
  refine a_next (m := ((x.length + 1 : Nat) : Int)) d1 (by omega) (by omega) (by omega) fun at_ cs2 hr d2 => ?_
  simp -implicitDefEqProofs
  refine a_sign d2 (by omega) fun s cs3 sa sl d3 => ?_
  by_cases w4 : way < 4
  · have wd : decide ((way : Int) < 4) = true := decide_eq_true (by omega)
    obtain ⟨A, hA⟩ : ∃ A, A = cutS x none (some (at_ : Int)) := ⟨_, rfl⟩
    obtain ⟨B, hB⟩ : ∃ B, B = cutS x (some (at_ : Int)) none := ⟨_, rfl⟩
    obtain ⟨C, hC⟩ : ∃ C, C = cutS x (some ((at_ : Int) + 1)) none := ⟨_, rfl⟩
    have sA : slS (.str x) none (some (at_ : Int)) = some (.str A) := by rw [hA]; exact sl_s78 (by omega)
    have sB : slS (.str x) (some (at_ : Int)) none = some (.str B) := by rw [hB]; exact sl_s78 (by omega)
    have sC : slS (.str x) (some ((at_ : Int) + 1)) none = some (.str C) := by rw [hC]; exact sl_s78 (by omega)
    have lA : A.length ≤ x.length := by rw [hA]; exact cutS_length ..
    have lB : B.length ≤ x.length := by rw [hB]; exact cutS_length ..
    have lC : C.length ≤ x.length := by rw [hC]; exact cutS_length ..
    have aA : Sg ascB A := by rw [hA]; exact asc_cut78 ha
    have aB : Sg ascB B := by rw [hB]; exact asc_cut78 ha
    have aC : Sg ascB C := by rw [hC]; exact asc_cut78 ha
    have x1 := add_s (a := A) (b := s) (by omega)
    have x2 := add_s (a := A ++ s) (b := B) (by rw [len_app]; omega)
    have x3 := add_s (a := A ++ s) (b := C) (by rw [len_app]; omega)
    have x4 := add_s (a := A) (b := C) (by omega)
    have ad1 := ad [.str (A ++ s ++ B), .str (A ++ s ++ C)] [.str (A ++ C), .str A] (by simp) (by simp)
    have eL : [PyData.str (A ++ s ++ B), .str (A ++ s ++ C)] ++ [.str (A ++ C), .str A] = ([A ++ s ++ B, A ++ s ++ C, A ++ C, A] : List Str).map PyData.str := rfl
    rw [eL] at ad1
    have all : ∀ y ∈ ([A ++ s ++ B, A ++ s ++ C, A ++ C, A] : List Str), Sg ascB y ∧ y.length ≤ 2 * x.length + 3 := fun y hy => by
      simp only [List.mem_cons, List.not_mem_nil, or_false] at hy
      rcases hy with rfl | rfl | rfl | rfl
      · exact ⟨(aA.app sa).app aB, by rw [len_app, len_app]; omega⟩
      · exact ⟨(aA.app sa).app aC, by rw [len_app, len_app]; omega⟩
      · exact ⟨aA.app aC, by rw [len_app]; omega⟩
      · exact ⟨aA, by omega⟩
    obtain ⟨Y, hY⟩ : ∃ Y : List Str, Y = [A ++ s ++ B, A ++ s ++ C, A ++ C, A] := ⟨_, rfl⟩
    rw [← hY] at ad1 all
    have Yl : Y.length = 4 := by rw [hY]; rfl
    have hw4 : way < Y.length := by omega
    have yi : atI (Y.map PyData.str) (way : Int) = some (.str Y[way]) := atI_map hw4
    simp -implicitDefEqProofs [wd, q_xSlS78, p1, sA, sB, sC, x1, x2, x3, x4, ad1, yi]
    exact hq _ cs3 (all _ (List.getElem_mem hw4)).1 (all _ (List.getElem_mem hw4)).2 (d3.mono (by omega))
  · have wd : decide ((way : Int) < 4) = false := decide_eq_false (by omega)
    simp -implicitDefEqProofs [wd, sp]
    refine a_next (m := (P.length : Int)) d3 (by omega) (by omega) (by omega) fun k cs4 hk d4 => ?_
    simp -implicitDefEqProofs
    refine a_next (m := (P.length : Int)) d4 (by omega) (by omega) (by omega) fun j cs5 hj d5 => ?_
    have hk : k < P.length := by omega
    have hj : j < P.length := by omega
    have d9 := d5.mono (c := b + 10) (by omega)
    obtain ⟨L, hL⟩ : ∃ L, L = P.map PyData.str := ⟨_, rfl⟩
    have c0 : Uv.cutD L none (some (k : Int)) = (P.take k).map PyData.str := by rw [hL, cut_take, List.map_take]
    have c1 : Uv.cutD L (some (k : Int)) none = (P.drop k).map PyData.str := by rw [hL, cut_nat, List.map_drop]
    have c2 : Uv.cutD L (some ((k : Int) + 1)) none = (P.drop (k + 1)).map PyData.str := by
      have := cut_nat (ds := L) (k := k + 1)
      rw [Int.natCast_add] at this
      rw [show ((1 : Nat) : Int) = 1 from rfl] at this
      rw [this, hL, List.map_drop]
    have c3 : ∀ i (hi : i < P.length), Uv.cutD L (some (i : Int)) (some ((i : Int) + 1)) = [PyData.str P[i]] := fun i hi => by
      have := cut_in (ds := L) (j := i) (k := i + 1)
      rw [Int.natCast_add] at this
      rw [show ((1 : Nat) : Int) = 1 from rfl] at this
      rw [this, hL, ← List.map_take, ← List.map_drop, take_drop1 hi]
      rfl
    obtain ⟨K0, hK0⟩ : ∃ K0, K0 = (P.take k).map PyData.str := ⟨_, rfl⟩
    obtain ⟨K1, hK1⟩ : ∃ K1, K1 = (P.drop k).map PyData.str := ⟨_, rfl⟩
    obtain ⟨K2, hK2⟩ : ∃ K2, K2 = (P.drop (k + 1)).map PyData.str := ⟨_, rfl⟩
    rw [← hK0] at c0
    rw [← hK1] at c1
    rw [← hK2] at c2
    have lt : ∀ i, ((P.take i).map PyData.str).length ≤ 10000 := fun i => by rw [List.length_map, List.length_take]; omega
    have ld : ∀ i, ((P.drop i).map PyData.str).length ≤ 10000 := fun i => by rw [List.length_map, List.length_drop]; omega
    have lK0 : K0.length ≤ 10000 := by rw [hK0]; exact lt k
    have lK1 : K1.length ≤ 10000 := by rw [hK1]; exact ld k
    have lK2 : K2.length ≤ 10000 := by rw [hK2]; exact ld (k + 1)
    have tk := totS_cut P k
    have ts := totS_at hk
    have tj := totS_at hj
    rw [← hL]
    simp -implicitDefEqProofs
    by_cases e4 : way = 4
    · have w4 : ((way : Int) == 4) = true := by rw [beq_iff_eq]; omega
      have a1 := ad K0 [PyData.str P[k]] (by omega) (by simp)
      have a2 := ad (K0 ++ [PyData.str P[k]]) K1 (by rw [List.length_append, List.length_singleton]; omega) (by omega)
      have em : K0 ++ [PyData.str P[k]] ++ K1 = (P.take k ++ [P[k]] ++ P.drop k).map PyData.str := by rw [hK0, hK1, List.map_append, List.map_append]; rfl
      rw [em] at a2
      obtain ⟨G, j1, j2, j3⟩ := jn (P.take k ++ [P[k]] ++ P.drop k) (fun p hp => by
        rcases List.mem_append.mp hp with h | h
        · rcases List.mem_append.mp h with h | h
          · exact (pi.1 p (List.mem_of_mem_take h)).1
          · rw [List.mem_singleton.mp h]; exact (pi.1 _ (List.getElem_mem hk)).1
        · exact (pi.1 p (List.mem_of_mem_drop h)).1) (by rw [totS_app, totS_app, totS_one]; omega)
      obtain ⟨Z, hZ⟩ : ∃ Z, Z = (P.take k ++ [P[k]] ++ P.drop k).map PyData.str := ⟨_, rfl⟩
      rw [← hZ] at a2 j1
      obtain ⟨Z1, hZ1⟩ : ∃ Z1, Z1 = K0 ++ [PyData.str P[k]] := ⟨_, rfl⟩
      rw [← hZ1] at a1 a2
      simp -implicitDefEqProofs [p1, w4, c0, c1, c3 k hk, a1, a2, j1]
      exact hq _ cs5 j2 j3 d9
    · have w4 : ((way : Int) == 4) = false := by rw [beq_eq_false_iff_ne]; omega
      by_cases e5 : way = 5
      · have w5 : ((way : Int) == 5) = true := by rw [beq_iff_eq]; omega
        have a1 := ad K0 K2 (by omega) (by omega)
        have em : K0 ++ K2 = (P.take k ++ P.drop (k + 1)).map PyData.str := by rw [hK0, hK2, List.map_append]
        rw [em] at a1
        obtain ⟨G, j1, j2, j3⟩ := jn (P.take k ++ P.drop (k + 1)) (fun p hp => by
          rcases List.mem_append.mp hp with h | h
          · exact (pi.1 p (List.mem_of_mem_take h)).1
          · exact (pi.1 p (List.mem_of_mem_drop h)).1) (by rw [totS_app]; omega)
        obtain ⟨Z, hZ⟩ : ∃ Z, Z = (P.take k ++ P.drop (k + 1)).map PyData.str := ⟨_, rfl⟩
        rw [← hZ] at a1 j1
        simp -implicitDefEqProofs [p1, w4, w5, c0, c2, a1, j1]
        exact hq _ cs5 j2 j3 d9
      · have w5 : ((way : Int) == 5) = false := by rw [beq_eq_false_iff_ne]; omega
        by_cases e6 : way = 6
        · have w6 : ((way : Int) == 6) = true := by rw [beq_iff_eq]; omega
          have a1 := ad K0 [PyData.str P[j]] (by omega) (by simp)
          have a2 := ad (K0 ++ [PyData.str P[j]]) K2 (by rw [List.length_append, List.length_singleton]; omega) (by omega)
          have em : K0 ++ [PyData.str P[j]] ++ K2 = (P.take k ++ [P[j]] ++ P.drop (k + 1)).map PyData.str := by rw [hK0, hK2, List.map_append, List.map_append]; rfl
          rw [em] at a2
          obtain ⟨G, j1, j2, j3⟩ := jn (P.take k ++ [P[j]] ++ P.drop (k + 1)) (fun p hp => by
            rcases List.mem_append.mp hp with h | h
            · rcases List.mem_append.mp h with h | h
              · exact (pi.1 p (List.mem_of_mem_take h)).1
              · rw [List.mem_singleton.mp h]; exact (pi.1 _ (List.getElem_mem hj)).1
            · exact (pi.1 p (List.mem_of_mem_drop h)).1) (by rw [totS_app, totS_app, totS_one]; omega)
          obtain ⟨Z, hZ⟩ : ∃ Z, Z = (P.take k ++ [P[j]] ++ P.drop (k + 1)).map PyData.str := ⟨_, rfl⟩
          rw [← hZ] at a2 j1
          obtain ⟨Z1, hZ1⟩ : ∃ Z1, Z1 = K0 ++ [PyData.str P[j]] := ⟨_, rfl⟩
          rw [← hZ1] at a1 a2
          simp -implicitDefEqProofs [p1, w4, w5, w6, c0, c2, c3 j hj, a1, a2, j1]
          exact hq _ cs5 j2 j3 d9
        · have w6 : ((way : Int) == 6) = false := by rw [beq_eq_false_iff_ne]; omega
          have lk : atI L (k : Int) = some (.str P[k]) := by rw [hL]; exact atI_map hk
          obtain ⟨u, hu⟩ : ∃ u, u = P[k] := ⟨_, rfl⟩
          have au := pi.1 _ (List.getElem_mem hk)
          rw [← hu] at lk au ts
          have sw := split_gen (x := u) (by omega)
          have wi := words_in au.1
          obtain ⟨V, hV⟩ : ∃ V, V = Txt.split u " " := ⟨_, rfl⟩
          have vne : V ≠ [] := by rw [hV]; exact split_ne u (c := 32) (by decide) (by decide)
          have tV : totS V = u.length + 1 := by rw [hV]; exact totS_split (c := 32) (by decide) (by decide)
          rw [← hV] at sw wi
          have vl : 0 < V.length := List.length_pos_iff.mpr vne
          obtain ⟨M, hM⟩ : ∃ M, M = V.map PyData.str := ⟨_, rfl⟩
          have lM : M.length = V.length := by rw [hM, List.length_map]
          rw [← hM] at sw
          simp -implicitDefEqProofs [w4, w5, w6, lk, sw, lM]
          refine a_next (m := (V.length : Int)) d5 (by omega) (by omega) (by omega) fun q cs6 hq6 d6 => ?_
          have hq6 : q < V.length := by omega
          have d9 := d6.mono (c := b + 10) (by omega)
          have v0 : Uv.cutD M none (some (q : Int)) = (V.take q).map PyData.str := by rw [hM, cut_take, List.map_take]
          have v1 : Uv.cutD M (some (q : Int)) none = (V.drop q).map PyData.str := by rw [hM, cut_nat, List.map_drop]
          have v2 : Uv.cutD M (some ((q : Int) + 1)) none = (V.drop (q + 1)).map PyData.str := by
            have := cut_nat (ds := M) (k := q + 1)
            rw [Int.natCast_add] at this
            rw [show ((1 : Nat) : Int) = 1 from rfl] at this
            rw [this, hM, List.map_drop]
          have v3 : Uv.cutD M (some (q : Int)) (some ((q : Int) + 1)) = [PyData.str V[q]] := by
            have := cut_in (ds := M) (j := q) (k := q + 1)
            rw [Int.natCast_add] at this
            rw [show ((1 : Nat) : Int) = 1 from rfl] at this
            rw [this, hM, ← List.map_take, ← List.map_drop, take_drop1 hq6]
            rfl
          obtain ⟨U0, hU0⟩ : ∃ U0, U0 = (V.take q).map PyData.str := ⟨_, rfl⟩
          obtain ⟨U1, hU1⟩ : ∃ U1, U1 = (V.drop q).map PyData.str := ⟨_, rfl⟩
          obtain ⟨U2, hU2⟩ : ∃ U2, U2 = (V.drop (q + 1)).map PyData.str := ⟨_, rfl⟩
          rw [← hU0] at v0
          rw [← hU1] at v1
          rw [← hU2] at v2
          have vt : ((V.take q).map PyData.str).length ≤ 10000 := by rw [List.length_map, List.length_take]; omega
          have vd : ∀ i, ((V.drop i).map PyData.str).length ≤ 10000 := fun i => by rw [List.length_map, List.length_drop]; omega
          have lU0 : U0.length ≤ 10000 := by rw [hU0]; exact vt
          have lU1 : U1.length ≤ 10000 := by rw [hU1]; exact vd q
          have lU2 : U2.length ≤ 10000 := by rw [hU2]; exact vd (q + 1)
          have tk := totS_cut V q
          have tq := totS_at hq6
          obtain ⟨N1, hN1⟩ : ∃ N1, N1 = V.take q ++ [V[q]] ++ V.drop q := ⟨_, rfl⟩
          obtain ⟨N2, hN2⟩ : ∃ N2, N2 = V.take q ++ V.drop (q + 1) := ⟨_, rfl⟩
          have t1 : totS N1 ≤ 2 * u.length + 2 := by rw [hN1, totS_app, totS_app, totS_one]; omega
          have t2 : totS N2 ≤ 2 * u.length + 2 := by rw [hN2, totS_app]; omega
          have s1 : ∀ p ∈ N1, Sg ascB p := fun p hp => by
            rw [hN1] at hp
            rcases List.mem_append.mp hp with h | h
            · rcases List.mem_append.mp h with h | h
              · exact (wi.1 p (List.mem_of_mem_take h)).1
              · rw [List.mem_singleton.mp h]; exact (wi.1 _ (List.getElem_mem hq6)).1
            · exact (wi.1 p (List.mem_of_mem_drop h)).1
          have s2 : ∀ p ∈ N2, Sg ascB p := fun p hp => by
            rw [hN2] at hp
            rcases List.mem_append.mp hp with h | h
            · exact (wi.1 p (List.mem_of_mem_take h)).1
            · exact (wi.1 p (List.mem_of_mem_drop h)).1
          have b1 := ad U0 [PyData.str V[q]] (by omega) (by simp)
          have b2 := ad (U0 ++ [PyData.str V[q]]) U1 (by rw [List.length_append, List.length_singleton]; omega) (by omega)
          have bm : U0 ++ [PyData.str V[q]] ++ U1 = N1.map PyData.str := by rw [hN1, hU0, hU1, List.map_append, List.map_append]; rfl
          rw [bm] at b2
          have b3 := ad U0 U2 (by omega) (by omega)
          have bm3 : U0 ++ U2 = N2.map PyData.str := by rw [hN2, hU0, hU2, List.map_append]
          rw [bm3] at b3
          obtain ⟨Y1, hY1⟩ : ∃ Y1, Y1 = U0 ++ [PyData.str V[q]] := ⟨_, rfl⟩
          rw [← hY1] at b1 b2
          obtain ⟨N, hN⟩ : ∃ N : List Str, N = if way = 7 then N1 else N2 := ⟨_, rfl⟩
          have tN : totS N ≤ 2 * u.length + 2 := by rw [hN]; split <;> assumption
          have sN : ∀ p ∈ N, Sg ascB p := by rw [hN]; split <;> assumption
          have ixN : atI [PyData.list (N1.map PyData.str), .list (N2.map PyData.str)] ((way : Int) - 7) = some (.list (N.map PyData.str)) := by
            have : way = 7 ∨ way = 8 := by omega
            rcases this with rfl | rfl
            · rw [hN, if_pos rfl]; rfl
            · rw [hN, if_neg (by decide)]; rfl
          have jw : joinT (.str " ") (.list (N.map PyData.str)) = some (.str (Txt.join " " N)) := join_f (by rw [l1b, Nat.mul_one, totS_sum]; omega)
          have aw : Sg ascB (Txt.join " " N) := asc_join (sg_lit (by decide)) sN
          have lw := len_join (ps := N) l1b
          obtain ⟨g1, hg1⟩ : ∃ g1, g1 = Txt.join " " N := ⟨_, rfl⟩
          rw [← hg1] at jw aw lw
          have a1 := ad K0 [PyData.str g1] (by omega) (by simp)
          have a2 := ad (K0 ++ [PyData.str g1]) K2 (by rw [List.length_append, List.length_singleton]; omega) (by omega)
          have em : K0 ++ [PyData.str g1] ++ K2 = (P.take k ++ [g1] ++ P.drop (k + 1)).map PyData.str := by rw [hK0, hK2, List.map_append, List.map_append]; rfl
          rw [em] at a2
          obtain ⟨G, j1, j2, j3⟩ := jn (P.take k ++ [g1] ++ P.drop (k + 1)) (fun p hp => by
            rcases List.mem_append.mp hp with h | h
            · rcases List.mem_append.mp h with h | h
              · exact (pi.1 p (List.mem_of_mem_take h)).1
              · rw [List.mem_singleton.mp h]; exact aw
            · exact (pi.1 p (List.mem_of_mem_drop h)).1) (by rw [totS_app, totS_app, totS_one]; omega)
          obtain ⟨Z, hZ⟩ : ∃ Z, Z = (P.take k ++ [g1] ++ P.drop (k + 1)).map PyData.str := ⟨_, rfl⟩
          rw [← hZ] at a2 j1
          obtain ⟨Z1, hZ1⟩ : ∃ Z1, Z1 = K0 ++ [PyData.str g1] := ⟨_, rfl⟩
          rw [← hZ1] at a1 a2
          simp -implicitDefEqProofs [p1, v0, v1, v2, v3, b1, b2, b3, ixN, jw, c0, c2, a1, a2, j1]
          exact hq _ cs6 j2 j3 d9
end
end Fn

namespace Fn
open PySem PySem.Spec PyProof.Rows L2 Uv TL
theorem k78 (ns : List Int) (h : ns.length ≤ 63) : F_law_z202 [scrD (ns.map PyData.int)] = some (.bool true) := by
  refine eq_of_wp ?_
  unfold F_law_z202
  refine wp_runP rfl ?_
  unfold X_law_z202
  simp -implicitDefEqProofs
  refine a_deck h fun cs dk => ?_
  simp -implicitDefEqProofs
  refine wp_forR (fun i ρ => ∃ (cs : List Cel) (z2 z3 z4 z5 z6 z7 z8 : Sl), ρ = [.dat (scrD (ns.map PyData.int)), .own cs, z2, z3, z4, z5, z6, z7, z8] ∧ DkA (4000 * i) cs) ⟨cs, _, _, _, _, _, _, _, rfl, dk⟩ ?_ ?_
  · rintro i hi ρ ⟨cs, z2, z3, z4, z5, z6, z7, z8, rfl, d⟩
    unfold X_law_z202_b3
    simp -implicitDefEqProofs
    refine a_next (m := 2) d (by omega) (by omega) (by omega) fun r cs1 hr d1 => ?_
    simp -implicitDefEqProofs
    refine a_web (most := 8) (many := 20) d1 (by omega) (by omega) (by omega) (by omega) (by omega) fun W cs2 hw d2 => ?_
    have wt := p_web_text hw
    have tl1 := len_text2 hw
    have ta := asc_text (W := W)
    obtain ⟨t, ht⟩ : ∃ t, t = textS W := ⟨_, rfl⟩
    rw [← ht] at wt tl1 ta
    have l1 : ("\n" : Str).length = 1 := by decide
    have y1 := add_s (a := t) (b := "\n") (by omega)
    have sl : slS (.str t) none (some (-1)) = some (.str (cutS t none (some (-1)))) := sl_s78 (by omega)
    simp -implicitDefEqProofs [wt, y1, q_xSlS78, sl]
    have nt : ∀ d : PD, isTy .str d = false → Uv.full d = false → Ask78 d := fun d h1 h2 => .inr ⟨h1, h2⟩
    have st : ∀ y : Str, Sg ascB y → y.length ≤ 20000 → Ask78 (.str y) := fun y h1 h2 => .inl ⟨y, rfl, h1, h2⟩
    refine wp_forR (fun k ρ => ∃ (cs : List Cel) (ds : List PD) (z5 z6 z7 z8 : Sl), ρ = [.dat (scrD (ns.map PyData.int)), .own cs, .dat (natD i), .dat (.str t), .own (dats ds), z5, z6, z7, z8] ∧ DkA (4000 * i + 1 + 1000 + 30 * k) cs ∧ (∀ d ∈ ds, Ask78 d) ∧ ds.length = 7 + k) ⟨cs2, [.str t, .str (t ++ "\n"), .str (cutS t none (some (-1))), .str "", .str "\n", .str "houses 9\n", .str "houses 1\n"], _, _, _, _, rfl, d2, fun d hd => ?_, rfl⟩ ?_ ?_
    · simp only [List.mem_cons, List.not_mem_nil, or_false] at hd
      rcases hd with rfl | rfl | rfl | rfl | rfl | rfl | rfl
      · exact st _ ta (by omega)
      · exact st _ (ta.app (sg_lit (by decide))) (by rw [len_app, l1]; omega)
      · exact st _ (asc_cut78 ta) (Nat.le_trans (cutS_length ..) (by omega))
      · exact st _ (sg_lit (by decide)) (by decide)
      · exact st _ (sg_lit (by decide)) (by decide)
      · exact st _ (sg_lit (by decide)) (by decide)
      · exact st _ (sg_lit (by decide)) (by decide)
    · rintro k hk ρ ⟨cs5, ds, z5, z6, z7, z8, rfl, d5, ok, dl⟩
      unfold X_law_z202_b1
      simp -implicitDefEqProofs
      refine a_spoilt d5 (by omega) ta (by omega) fun y cs6 ya yl d6 => ?_
      simp -implicitDefEqProofs
      refine a_next (m := 3) d6 (by omega) (by omega) (by omega) fun r cs7 hr d7 => ?_
      simp -implicitDefEqProofs
      have okS : ∀ y : Str, Sg ascB y → y.length ≤ 20000 → ∀ d ∈ ds ++ [.str y], Ask78 d := fun y h1 h2 d hd => by
        rcases List.mem_append.mp hd with z | z
        · exact ok d z
        · rw [List.mem_singleton.mp z]
          exact st _ h1 h2
      by_cases c0 : r = 0
      · have e0 : ((r : Int) == 0) = true := by rw [beq_iff_eq]; omega
        simp -implicitDefEqProofs [e0]
        refine a_spoilt d7 (by omega) ya (by omega) fun y2 cs8 ya2 yl2 d8 => ?_
        simp -implicitDefEqProofs
        exact ⟨by omega, cs8, ds ++ [.str y2], _, _, _, _, rfl, d8.mono (by omega), okS y2 ya2 (by omega), by simp; omega⟩
      · have e0 : ((r : Int) == 0) = false := by rw [beq_eq_false_iff_ne]; omega
        simp -implicitDefEqProofs [e0]
        exact ⟨by omega, cs7, ds ++ [.str y], _, _, _, _, rfl, d7.mono (by omega), okS y ya (by omega), by simp; omega⟩
    · rintro ρ ⟨cs5, ds, z5, z6, z7, z8, rfl, d5, ok, dl⟩
      have ad1 : addX (.list ds) (.list [.none, .int 0, .bool true, .tuple [.str t], .list [.str t], .dict []]) = some (.list (ds ++ [.none, .int 0, .bool true, .tuple [.str t], .list [.str t], .dict []])) := if_pos (by simp; omega)
      obtain ⟨es, hes⟩ : ∃ es, es = ds ++ [.none, .int 0, .bool true, .tuple [.str t], .list [.str t], .dict []] := ⟨_, rfl⟩
      have okE : ∀ d ∈ es, Ask78 d := fun d hd => by
        rw [hes] at hd
        rcases List.mem_append.mp hd with hd | hd
        · exact ok d hd
        · simp only [List.mem_cons, List.not_mem_nil, or_false] at hd
          rcases hd with rfl | rfl | rfl | rfl | rfl | rfl
          · exact nt _ rfl rfl
          · exact nt _ rfl rfl
          · exact nt _ rfl rfl
          · exact nt _ rfl rfl
          · exact nt _ rfl rfl
          · exact nt _ rfl rfl
      rw [← hes] at ad1
      simp -implicitDefEqProofs [ad1]
      refine wp_for (fun k ρ => ∃ z6 z7 z8 : Sl, ρ = [.dat (scrD (ns.map PyData.int)), .own cs5, .dat (natD i), .dat (.str t), .dat (.list ds), z5, z6, z7, z8]) ⟨_, _, _, rfl⟩ ?_ ?_
      · rintro k hk ρ ⟨z6, z7, z8, rfl⟩
        obtain ⟨f, r, c, e1, e2, e3, e4, sh⟩ := ask78 (okE _ (List.getElem_mem hk))
        have rp := rp_of sh
        have ne := ne_shown sh
        unfold X_law_z202_b2
        cases c with
        | true =>
          have e4 : r = .list [.str "web", es[k]] := e4
          rw [e4] at e3 rp ne
          simp -implicitDefEqProofs [e1, e2, e3, rp, ne]
          exact ⟨_, _, _, rfl⟩
        | false =>
          have e4 : r = .list [.str "no", f] := e4
          rw [e4] at e3 rp ne
          simp -implicitDefEqProofs [e1, e2, e3, rp, ne]
          exact ⟨_, _, _, rfl⟩
      · rintro ρ ⟨z6, z7, z8, rfl⟩
        simp -implicitDefEqProofs
        exact ⟨cs5, _, _, _, _, _, _, _, rfl, d5.mono (by omega)⟩
  · rintro ρ ⟨cs, z2, z3, z4, z5, z6, z7, z8, rfl, d⟩
    simp -implicitDefEqProofs
end Fn



namespace Row
open PySem PySem.Spec PyProof.Rows L2 Uv Fn Hed
abbrev N__law_deck : List Str := ["_law_script", "_law_cells", "_law_cell"]
theorem sc__law_deck : FnScope N__law_deck ["_law_script"] (defScope s__law_deck) := ⟨rfl, rfl, rfl, by decide +kernel, rfl, by decide +kernel, by decide +kernel⟩
abbrev N__law_next : List Str := ["_law_deck_here", "_law_many", "_law_rest", "_law_cell", "_law_mixed"]
theorem sc__law_next : FnScope N__law_next ["_law_deck_here", "_law_many"] (defScope s__law_next) := ⟨rfl, rfl, rfl, by decide +kernel, rfl, by decide +kernel, by decide +kernel⟩
abbrev N__law_sign : List Str := ["_law_deck_here", "_law_signs"]
theorem sc__law_sign : FnScope N__law_sign ["_law_deck_here"] (defScope s__law_sign) := ⟨rfl, rfl, rfl, by decide +kernel, rfl, by decide +kernel, by decide +kernel⟩
abbrev N__law_spoilt : List Str := ["_law_deck_here", "_law_text", "_law_way", "_law_at", "_law_sign_here", "_law_some", "_law_lines", "_law_k", "_law_j", "_law_words", "_law_m"]
theorem sc__law_spoilt : FnScope N__law_spoilt ["_law_deck_here", "_law_text"] (defScope s__law_spoilt) := ⟨rfl, rfl, rfl, by decide +kernel, rfl, by decide +kernel, by decide +kernel⟩
abbrev N__law_number_in : List Str := ["_law_word", "_law_most", "_law_sign_here"]
theorem sc__law_number_in : FnScope N__law_number_in ["_law_word", "_law_most"] (defScope s__law_number_in) := ⟨rfl, rfl, rfl, by decide +kernel, rfl, by decide +kernel, by decide +kernel⟩
abbrev N__law_end_in : List Str := ["_law_word", "_law_houses"]
theorem sc__law_end_in : FnScope N__law_end_in ["_law_word", "_law_houses"] (defScope s__law_end_in) := ⟨rfl, rfl, rfl, by decide +kernel, rfl, by decide +kernel, by decide +kernel⟩
abbrev N__law_line_right : List Str := ["_law_line", "_law_houses", "_law_roads", "_law_orders", "_law_words", "_law_number", "_law_ends", "_law_side", "_law_house", "_law_numbers", "_law_word", "_law_k"]
theorem sc__law_line_right : FnScope N__law_line_right ["_law_line", "_law_houses", "_law_roads", "_law_orders"] (defScope s__law_line_right) := ⟨rfl, rfl, rfl, by decide +kernel, rfl, by decide +kernel, by decide +kernel⟩
abbrev N__law_text_fault : List Str := ["_law_thing", "_law_parts", "_law_lines", "_law_houses", "_law_roads", "_law_orders", "_law_at", "_law_line"]
theorem sc__law_text_fault : FnScope N__law_text_fault ["_law_thing"] (defScope s__law_text_fault) := ⟨rfl, rfl, rfl, by decide +kernel, rfl, by decide +kernel, by decide +kernel⟩
abbrev N_check_text : List Str := ["thing"]
theorem sc_check_text : FnScope N_check_text ["thing"] (defScope s_check_text) := ⟨rfl, rfl, rfl, by decide +kernel, rfl, by decide +kernel, by decide +kernel⟩
abbrev N_houses_line : List Str := ["houses"]
theorem sc_houses_line : FnScope N_houses_line ["houses"] (defScope s_houses_line) := ⟨rfl, rfl, rfl, by decide +kernel, rfl, by decide +kernel, by decide +kernel⟩
abbrev N_read_houses : List Str := ["lines", "houses"]
theorem sc_read_houses : FnScope N_read_houses ["lines"] (defScope s_read_houses) := ⟨rfl, rfl, rfl, by decide +kernel, rfl, by decide +kernel, by decide +kernel⟩
abbrev N_is_number : List Str := ["thing"]
theorem sc_is_number : FnScope N_is_number ["thing"] (defScope s_is_number) := ⟨rfl, rfl, rfl, by decide +kernel, rfl, by decide +kernel, by decide +kernel⟩
abbrev N_is_order : List Str := ["thing", "numbers", "number"]
theorem sc_is_order : FnScope N_is_order ["thing", "numbers"] (defScope s_is_order) := ⟨rfl, rfl, rfl, by decide +kernel, rfl, by decide +kernel, by decide +kernel⟩
abbrev N_order_line : List Str := ["word", "order", "roads", "road"]
theorem sc_order_line : FnScope N_order_line ["word", "order"] (defScope s_order_line) := ⟨rfl, rfl, rfl, by decide +kernel, rfl, by decide +kernel, by decide +kernel⟩
abbrev N_number_in : List Str := ["word"]
theorem sc_number_in : FnScope N_number_in ["word"] (defScope s_number_in) := ⟨rfl, rfl, rfl, by decide +kernel, rfl, by decide +kernel, by decide +kernel⟩
abbrev N_roads_in : List Str := ["word", "roads", "part"]
theorem sc_roads_in : FnScope N_roads_in ["word"] (defScope s_roads_in) := ⟨rfl, rfl, rfl, by decide +kernel, rfl, by decide +kernel, by decide +kernel⟩
abbrev N_read_order : List Str := ["lines", "at", "word", "roads", "order"]
theorem sc_read_order : FnScope N_read_order ["lines", "at", "word", "roads"] (defScope s_read_order) := ⟨rfl, rfl, rfl, by decide +kernel, rfl, by decide +kernel, by decide +kernel⟩
abbrev N_read_orders : List Str := ["lines", "first", "word", "ends", "houses", "house", "road", "end"]
theorem sc_read_orders : FnScope N_read_orders ["lines", "first", "word", "ends", "houses"] (defScope s_read_orders) := ⟨rfl, rfl, rfl, by decide +kernel, rfl, by decide +kernel, by decide +kernel⟩
abbrev N_is_number_to : List Str := ["thing", "most"]
theorem sc_is_number_to : FnScope N_is_number_to ["thing", "most"] (defScope s_is_number_to) := ⟨rfl, rfl, rfl, by decide +kernel, rfl, by decide +kernel, by decide +kernel⟩
abbrev N_is_end : List Str := ["thing", "houses"]
theorem sc_is_end : FnScope N_is_end ["thing", "houses"] (defScope s_is_end) := ⟨rfl, rfl, rfl, by decide +kernel, rfl, by decide +kernel, by decide +kernel⟩
abbrev N_is_tuple_of : List Str := ["thing", "least", "most"]
theorem sc_is_tuple_of : FnScope N_is_tuple_of ["thing", "least", "most"] (defScope s_is_tuple_of) := ⟨rfl, rfl, rfl, by decide +kernel, rfl, by decide +kernel, by decide +kernel⟩
abbrev N_road_fault : List Str := ["number", "road", "houses", "begin", "end", "room"]
theorem sc_road_fault : FnScope N_road_fault ["number", "road", "houses"] (defScope s_road_fault) := ⟨rfl, rfl, rfl, by decide +kernel, rfl, by decide +kernel, by decide +kernel⟩
abbrev N_end_word : List Str := ["end"]
theorem sc_end_word : FnScope N_end_word ["end"] (defScope s_end_word) := ⟨rfl, rfl, rfl, by decide +kernel, rfl, by decide +kernel, by decide +kernel⟩
abbrev N_road_line : List Str := ["road", "begin", "end", "room"]
theorem sc_road_line : FnScope N_road_line ["road"] (defScope s_road_line) := ⟨rfl, rfl, rfl, by decide +kernel, rfl, by decide +kernel, by decide +kernel⟩
abbrev N_read_roads : List Str := ["lines", "houses", "roads", "line", "road", "word"]
theorem sc_read_roads : FnScope N_read_roads ["lines", "houses"] (defScope s_read_roads) := ⟨rfl, rfl, rfl, by decide +kernel, rfl, by decide +kernel, by decide +kernel⟩
abbrev N_web_text : List Str := ["web", "roads", "gives", "takes", "lines", "road", "order", "line"]
theorem sc_web_text : FnScope N_web_text ["web"] (defScope s_web_text) := ⟨rfl, rfl, rfl, by decide +kernel, rfl, by decide +kernel, by decide +kernel⟩
abbrev N_read_web : List Str := ["thing", "lines", "houses", "roads", "gives", "takes", "web", "begin", "end", "room"]
theorem sc_read_web : FnScope N_read_web ["thing"] (defScope s_read_web) := ⟨rfl, rfl, rfl, by decide +kernel, rfl, by decide +kernel, by decide +kernel⟩
abbrev N__law_told : List Str := ["_law_thing", "_law_found", "e"]
theorem sc__law_told : FnScope N__law_told ["_law_thing"] (defScope s__law_told) := ⟨rfl, rfl, rfl, by decide +kernel, rfl, by decide +kernel, by decide +kernel⟩
abbrev N__law_order : List Str := ["_law_deck_here", "_law_numbers", "_law_found", "_law_number"]
theorem sc__law_order : FnScope N__law_order ["_law_deck_here", "_law_numbers"] (defScope s__law_order) := ⟨rfl, rfl, rfl, by decide +kernel, rfl, by decide +kernel, by decide +kernel⟩
abbrev N__law_one : List Str := ["_law_deck_here", "_law_some"]
theorem sc__law_one : FnScope N__law_one ["_law_deck_here", "_law_some"] (defScope s__law_one) := ⟨rfl, rfl, rfl, by decide +kernel, rfl, by decide +kernel, by decide +kernel⟩
abbrev N__law_room : List Str := ["_law_deck_here", "_law_far", "_law_small", "_law_great"]
theorem sc__law_room : FnScope N__law_room ["_law_deck_here", "_law_far"] (defScope s__law_room) := ⟨rfl, rfl, rfl, by decide +kernel, rfl, by decide +kernel, by decide +kernel⟩
abbrev N__law_road : List Str := ["_law_deck_here", "_law_houses", "_law_far", "_law_one_here", "_law_other", "_law_begin", "_law_end", "_law_number"]
theorem sc__law_road : FnScope N__law_road ["_law_deck_here", "_law_houses", "_law_far"] (defScope s__law_road) := ⟨rfl, rfl, rfl, by decide +kernel, rfl, by decide +kernel, by decide +kernel⟩
abbrev N__law_web : List Str := ["_law_deck_here", "_law_houses", "_law_roads", "_law_far", "_law_count", "_law_found", "_law_orders", "_law_side", "_law_rows", "_law_house", "_law_k"]
theorem sc__law_web : FnScope N__law_web ["_law_deck_here", "_law_houses", "_law_roads", "_law_far"] (defScope s__law_web) := ⟨rfl, rfl, rfl, by decide +kernel, rfl, by decide +kernel, by decide +kernel⟩
abbrev N_law : List Str := ["_law_script", "_law_deck_here", "_law_turn", "_law_text", "_law_things", "_law_k", "_law_thing", "_law_fault", "_law_due"]
theorem sc_law : FnScope N_law ["_law_script"] (defScope s_law) := ⟨rfl, rfl, rfl, by decide +kernel, rfl, by decide +kernel, by decide +kernel⟩
theorem fnScope_NoText : FnScope ["self", "line"] ["self", "line"] (defScope s_initNoText) := ⟨rfl, rfl, rfl, by decide +kernel, rfl, by decide +kernel, by decide +kernel⟩
structure Bm (mg : Str → Option Value) : Prop where
  n_abs : mg "abs" = none
  n_all : mg "all" = none
  n_bool : mg "bool" = none
  n_enumerate : mg "enumerate" = none
  n_int : mg "int" = none
  n_isinstance : mg "isinstance" = none
  n_len : mg "len" = none
  n_range : mg "range" = none
  n_repr : mg "repr" = none
  n_sorted : mg "sorted" = none
  n_str : mg "str" = none
  n_tuple : mg "tuple" = none
section
variable [kk : KK] {P : Program} {w : World} {mg : Str → Option Value} {base : Heap} {cA : Nat → Addr} {dA : Addr}
structure HR (P : Program) (w : World) (mg : Str → Option Value) (base : Heap) (cA : Nat → Addr) : Prop where
  v_NoText : InitOk P w K mg base "NoText" (cA 16) "line"
theorem eq_F__law_deck_h : F__law_deck_h = runD 1 2 X__law_deck_h := by unfold F__law_deck_h; rfl
theorem c__law_deck (F : Dfn K mg "_law_deck" s__law_deck ["_law_script"]) (B : Bm mg) : CalG P w K mg base 1 "_law_deck" (spD F__law_deck_h) := by
  rw [eq_F__law_deck_h]
  refine cal_g F sc__law_deck (fun vs H Q E h => len_D h) (fun f cdv A outer s H E hG hr => ⟨T__law_deck_h, ?_, fun vs Q h => go_D (n := 1) (k := 2) (ss__law_deck_h) rfl h⟩)
  unfold T__law_deck_h
  exact pss_cons (ps_setLc (i := 1) (own := [("_law_cell", 2)]) rfl sc__law_deck.nd rfl rfl (sw_true rfl rfl rfl (by decide +kernel)) (PI.or (pi_list (pv 0)) (pi_tup (pv 0))) (blkOk_by (N := N__law_deck) (sc := defScope s__law_deck) (by decide +kernel)) (fun _ _ _ _ _ => (pg_name (i := 2) sc__law_deck.nd rfl (.inl rfl))) (fun _ _ _ _ _ => pts_nil) (fun _ _ _ _ _ => pe_callB call_abs (by rfl) B.n_abs (by decide +kernel) (pa_cons (pv 2) pa_nil)))
      (pss_one (ps_ret (pe_lst (pa_cons (pe_lc (own := [("_law_cell", 2)]) rfl sc__law_deck.nd (PI.or (pi_list (pv 1)) (pi_tup (pv 1))) (blkOk_by (N := N__law_deck) (sc := defScope s__law_deck) (by decide +kernel)) (fun _ _ _ _ _ => (pg_name (i := 2) sc__law_deck.nd rfl (.inl rfl))) (fun _ _ _ _ _ => pts_one (pt_cmpR op_ge (pv 2) (pe_op op_pow pe_int pe_int) (nomark _))) (fun _ _ _ _ _ => (pv 2))) (pa_cons (pe_op op_addU (pv 1) (pe_lst (pa_cons (pe_op op_addU (pe_callB call_len_seq (by rfl) B.n_len (by decide +kernel) (pa_cons (pv 1) pa_nil)) pe_int) pa_nil))) (pa_cons pe_int pa_nil))))))
theorem eq_F__law_next : F__law_next = runW 1 3 X__law_next := by unfold F__law_next; rfl
theorem c__law_next (F : Dfn K mg "_law_next" s__law_next ["_law_deck_here", "_law_many"]) (B : Bm mg) : CalG P w K mg base 1 "_law_next" (spW F__law_next) := by
  rw [eq_F__law_next]
  refine cal_g F sc__law_next (fun vs H Q E h => len_W h) (fun f cdv A outer s H E hG hr => ⟨T__law_next, ?_, fun vs Q h => go_W (n := 1) (k := 3) (ss__law_next) rfl h⟩)
  unfold T__law_next
  exact pss_cons (ps_while PassesOwn.never (pt_cmpR (op_neD hr.units) (pe_ix ix_seq (pv 0) pe_int (fun _ _ => rfl)) (pe_lst pa_nil) (nomark _)) (pss_cons (ps_set (i := 2) sc__law_next.nd rfl (.inl rfl) (pe_ix ix_seq (pe_ix ix_seq (pv 0) pe_int (fun _ _ => rfl)) pe_int (fun _ _ => rfl)))
      (pss_cons (ps_if (pt_cmpR (op_gtU hr.units) (pv 2) pe_int (nomark _)) (pss_cons (ps_asg (pe_op op_fdivW (pv 2) (pv 1)) (pg_sub (pe_ix ix_seq (pv 0) pe_int (fun _ _ => rfl)) pe_int set_list))
      (pss_one (ps_ret (pe_op op_mod (pv 2) (pv 1))))) pss_nil)
      (pss_one (ps_expr (pe_bm PySem.F.plainAttrs_list PySem.F.slot_list_pop PySem.F.type_list_pop mt_popAt (pe_ix ix_seq (pv 0) pe_int (fun _ _ => rfl)) (pa_cons pe_int pa_nil)))))))
      (pss_cons (ps_asg (pe_op op_addU (pe_ix ix_seq (pv 0) pe_int (fun _ _ => rfl)) pe_int) (pg_sub (pv 0) pe_int set_list))
      (pss_cons (ps_set (i := 3) sc__law_next.nd rfl (.inl rfl) (pe_op op_mod (pe_ix ix_seq (pe_ix ix_seq (pv 0) pe_int (fun _ _ => rfl)) (pe_op op_mod (pe_ix ix_seq (pv 0) pe_int (fun _ _ => rfl)) (pe_callB call_len_seq (by rfl) B.n_len (by decide +kernel) (pa_cons (pe_ix ix_seq (pv 0) pe_int (fun _ _ => rfl)) pa_nil))) (fun _ _ => rfl)) pe_int))
      (pss_cons (ps_set (i := 4) sc__law_next.nd rfl (.inl rfl) (pe_op op_addU (pe_op op_addU (pe_op op_mulV (pv 3) (pe_op op_addU pe_int (pe_op op_mulV pe_int (pe_ix ix_seq (pv 0) pe_int (fun _ _ => rfl))))) (pe_op op_mulV (pe_op op_mulV pe_int (pe_ix ix_seq (pv 0) pe_int (fun _ _ => rfl))) (pe_ix ix_seq (pv 0) pe_int (fun _ _ => rfl)))) pe_int))
      (pss_cons (ps_set (i := 4) sc__law_next.nd rfl (.inl rfl) (pe_op op_mod (pv 4) pe_int))
      (pss_one (ps_ret (pe_op op_mod (pe_op op_fdivW (pe_op op_mod (pe_op op_mulV (pv 4) (pv 4)) pe_int) pe_int) (pv 1))))))))
theorem eq_F__law_sign_b : F__law_sign_b = runW 0 1 X__law_sign_b := by unfold F__law_sign_b; rfl
theorem c__law_sign (F : Dfn K mg "_law_sign" s__law_sign ["_law_deck_here"]) (B : Bm mg) (c__law_next : CalG P w K mg base 1 "_law_next" (spW F__law_next)) : CalG P w K mg base 2 "_law_sign" (spW F__law_sign_b) := by
  rw [eq_F__law_sign_b]
  refine cal_g F sc__law_sign (fun vs H Q E h => len_W h) (fun f cdv A outer s H E hG hr => ⟨T__law_sign_b, ?_, fun vs Q h => go_W (n := 0) (k := 1) (ss__law_sign_b) rfl h⟩)
  unfold T__law_sign_b
  exact pss_cons (ps_set (i := 1) sc__law_sign.nd rfl (.inl rfl) pe_str)
      (pss_one (ps_ret (pe_ix ix_seq (pv 1) (pe_g c__law_next hr (by decide) hG (by rfl) (pa_cons (pv 0) (pa_cons (pe_callB call_len_str (by rfl) B.n_len (by decide +kernel) (pa_cons (pv 1) pa_nil)) pa_nil))) (fun _ _ => rfl))))
theorem eq_F__law_spoilt_c : F__law_spoilt_c = runW 1 9 X__law_spoilt_c := by unfold F__law_spoilt_c; rfl
theorem c__law_spoilt (F : Dfn K mg "_law_spoilt" s__law_spoilt ["_law_deck_here", "_law_text"]) (B : Bm mg) (c__law_next : CalG P w K mg base 1 "_law_next" (spW F__law_next)) (c__law_sign : CalG P w K mg base 2 "_law_sign" (spW F__law_sign_b)) : CalG P w K mg base 3 "_law_spoilt" (spW F__law_spoilt_c) := by
  rw [eq_F__law_spoilt_c]
  refine cal_g F sc__law_spoilt (fun vs H Q E h => len_W h) (fun f cdv A outer s H E hG hr => ⟨T__law_spoilt_c, ?_, fun vs Q h => go_W (n := 1) (k := 9) (ss__law_spoilt_c) rfl h⟩)
  unfold T__law_spoilt_c
  exact pss_cons (ps_set (i := 2) sc__law_spoilt.nd rfl (.inl rfl) (pe_g c__law_next hr (by decide) hG (by rfl) (pa_cons (pv 0) (pa_cons pe_int pa_nil))))
      (pss_cons (ps_set (i := 3) sc__law_spoilt.nd rfl (.inl rfl) (pe_g c__law_next hr (by decide) hG (by rfl) (pa_cons (pv 0) (pa_cons (pe_op op_addX (pe_callB call_len_str (by rfl) B.n_len (by decide +kernel) (pa_cons (pv 1) pa_nil)) pe_int) pa_nil))))
      (pss_cons (ps_set (i := 4) sc__law_spoilt.nd rfl (.inl rfl) (pe_g c__law_sign hr (by decide) hG (by rfl) (pa_cons (pv 0) pa_nil)))
      (pss_cons (ps_if (pt_cmpR op_lt (pv 2) pe_int (nomark _)) (pss_cons (ps_set (i := 5) sc__law_spoilt.nd rfl (.inl rfl) (pe_lst (pa_cons (pe_op op_addX (pe_op op_addX (pe_slice sl_str (pv 1) po_none (po_some (pv 3))) (pv 4)) (pe_slice sl_str (pv 1) (po_some (pv 3)) po_none)) (pa_cons (pe_op op_addX (pe_op op_addX (pe_slice sl_str (pv 1) po_none (po_some (pv 3))) (pv 4)) (pe_slice sl_str (pv 1) (po_some (pe_op op_addX (pv 3) pe_int)) po_none)) pa_nil))))
      (pss_one (ps_ret (pe_ix ix_seq (pe_op op_addX (pv 5) (pe_lst (pa_cons (pe_op op_addX (pe_slice sl_str (pv 1) po_none (po_some (pv 3))) (pe_slice sl_str (pv 1) (po_some (pe_op op_addX (pv 3) pe_int)) po_none)) (pa_cons (pe_slice sl_str (pv 1) po_none (po_some (pv 3))) pa_nil)))) (pv 2) (fun _ _ => rfl))))) pss_nil)
      (pss_cons (ps_set (i := 6) sc__law_spoilt.nd rfl (.inl rfl) (pe_splitS (pv 1) pe_str))
      (pss_cons (ps_par (i := 7) (j := 8) rfl sc__law_spoilt.nd rfl rfl (by decide) rfl rfl (pa_cons (pe_g c__law_next hr (by decide) hG (by rfl) (pa_cons (pv 0) (pa_cons (pe_callB call_len_seq (by rfl) B.n_len (by decide +kernel) (pa_cons (pv 6) pa_nil)) pa_nil))) (pa_cons (pe_g c__law_next hr (by decide) hG (by rfl) (pa_cons (pv 0) (pa_cons (pe_callB call_len_seq (by rfl) B.n_len (by decide +kernel) (pa_cons (pv 6) pa_nil)) pa_nil))) pa_nil)) rfl)
      (pss_cons (ps_if (pt_cmpR (op_eqX hr.units) (pv 2) pe_int (nomark _)) (pss_one (ps_ret (pe_joinS pe_str (pe_op op_addX (pe_op op_addX (pe_slice sl_U (pv 6) po_none (po_some (pv 7))) (pe_slice sl_U (pv 6) (po_some (pv 7)) (po_some (pe_op op_addX (pv 7) pe_int)))) (pe_slice sl_U (pv 6) (po_some (pv 7)) po_none))))) pss_nil)
      (pss_cons (ps_if (pt_cmpR (op_eqX hr.units) (pv 2) pe_int (nomark _)) (pss_one (ps_ret (pe_joinS pe_str (pe_op op_addX (pe_slice sl_U (pv 6) po_none (po_some (pv 7))) (pe_slice sl_U (pv 6) (po_some (pe_op op_addX (pv 7) pe_int)) po_none))))) pss_nil)
      (pss_cons (ps_if (pt_cmpR (op_eqX hr.units) (pv 2) pe_int (nomark _)) (pss_one (ps_ret (pe_joinS pe_str (pe_op op_addX (pe_op op_addX (pe_slice sl_U (pv 6) po_none (po_some (pv 7))) (pe_slice sl_U (pv 6) (po_some (pv 8)) (po_some (pe_op op_addX (pv 8) pe_int)))) (pe_slice sl_U (pv 6) (po_some (pe_op op_addX (pv 7) pe_int)) po_none))))) pss_nil)
      (pss_cons (ps_set (i := 9) sc__law_spoilt.nd rfl (.inl rfl) (pe_splitS (pe_ix ix_seq (pv 6) (pv 7) (fun _ _ => rfl)) pe_str))
      (pss_cons (ps_set (i := 10) sc__law_spoilt.nd rfl (.inl rfl) (pe_g c__law_next hr (by decide) hG (by rfl) (pa_cons (pv 0) (pa_cons (pe_callB call_len_seq (by rfl) B.n_len (by decide +kernel) (pa_cons (pv 9) pa_nil)) pa_nil))))
      (pss_cons (ps_set (i := 9) sc__law_spoilt.nd rfl (.inl rfl) (pe_ix ix_seq (pe_lst (pa_cons (pe_op op_addX (pe_op op_addX (pe_slice sl_U (pv 9) po_none (po_some (pv 10))) (pe_slice sl_U (pv 9) (po_some (pv 10)) (po_some (pe_op op_addX (pv 10) pe_int)))) (pe_slice sl_U (pv 9) (po_some (pv 10)) po_none)) (pa_cons (pe_op op_addX (pe_slice sl_U (pv 9) po_none (po_some (pv 10))) (pe_slice sl_U (pv 9) (po_some (pe_op op_addX (pv 10) pe_int)) po_none)) pa_nil))) (pe_op op_sub (pv 2) pe_int) (fun _ _ => rfl)))
      (pss_one (ps_ret (pe_joinS pe_str (pe_op op_addX (pe_op op_addX (pe_slice sl_U (pv 6) po_none (po_some (pv 7))) (pe_lst (pa_cons (pe_joinS pe_str (pv 9)) pa_nil))) (pe_slice sl_U (pv 6) (po_some (pe_op op_addX (pv 7) pe_int)) po_none))))))))))))))))
theorem eq_F__law_number_in : F__law_number_in = runP 2 1 X__law_number_in := by unfold F__law_number_in; rfl
theorem c__law_number_in (F : Dfn K mg "_law_number_in" s__law_number_in ["_law_word", "_law_most"]) (B : Bm mg) : CalG P w K mg base 1 "_law_number_in" (spF F__law_number_in) := by
  rw [eq_F__law_number_in]
  refine cal_g F sc__law_number_in (fun vs H Q E h => len_F h) (fun f cdv A outer s H E hG hr => ⟨T__law_number_in, ?_, fun vs Q h => go_P (n := 2) (k := 1) (ss__law_number_in) rfl h⟩)
  unfold T__law_number_in
  exact pss_cons (ps_if (PW.pt (pw_or (pt_cmpR (op_eqX hr.units) (pv 0) pe_str (nomark _)) (pw_or (pt_cmpR (op_gtU hr.units) (pe_callB call_len_str (by rfl) B.n_len (by decide +kernel) (pa_cons (pv 0) pa_nil)) pe_int (nomark _)) (pw_or1 (pt_cmpR (op_neD hr.units) (pe_lc (own := [("_law_sign_here", 2)]) rfl sc__law_number_in.nd (pi_str (pv 0)) (blkOk_by (N := N__law_number_in) (sc := defScope s__law_number_in) (by decide +kernel)) (fun _ _ _ _ _ => (pg_name (i := 2) sc__law_number_in.nd rfl (.inl rfl))) (fun _ _ _ _ _ => pts_one (pt_cmpR op_notInS (pv 2) pe_str (by rfl))) (fun _ _ _ _ _ => (pv 2))) (pe_lst pa_nil) (nomark _)))))) (pss_one (ps_ret pe_non)) pss_nil)
      (pss_cons (ps_if (PW.pt (pw_or (PW.pt (pw_and (pt_cmpR (op_eqX hr.units) (pe_ix ix_seq (pv 0) pe_int (fun _ _ => rfl)) pe_str (nomark _)) (pw_and1 (pt_cmpR (op_neD hr.units) (pv 0) pe_str (nomark _))))) (pw_or1 (pt_cmpR (op_gtU hr.units) (pe_callTy call_int_str (by rfl) B.n_int (by decide +kernel) (pa_cons (pv 0) pa_nil)) (pv 1) (nomark _))))) (pss_one (ps_ret pe_non)) pss_nil)
      (pss_one (ps_ret (pe_callTy call_int_str (by rfl) B.n_int (by decide +kernel) (pa_cons (pv 0) pa_nil)))))
theorem eq_F__law_end_in : F__law_end_in = runP 2 0 X__law_end_in := by unfold F__law_end_in; rfl
theorem c__law_end_in (F : Dfn K mg "_law_end_in" s__law_end_in ["_law_word", "_law_houses"]) (B : Bm mg) (c__law_number_in : CalG P w K mg base 1 "_law_number_in" (spF F__law_number_in)) : CalG P w K mg base 2 "_law_end_in" (spF F__law_end_in) := by
  rw [eq_F__law_end_in]
  refine cal_g F sc__law_end_in (fun vs H Q E h => len_F h) (fun f cdv A outer s H E hG hr => ⟨T__law_end_in, ?_, fun vs Q h => go_P (n := 2) (k := 0) (ss__law_end_in) rfl h⟩)
  unfold T__law_end_in
  exact pss_one (ps_ret (pe_ifExp (pt_cmpR (op_eqX hr.units) (pv 0) pe_str (nomark _)) (pe_un un_neg pe_int) (pe_g c__law_number_in hr (by decide) hG (by rfl) (pa_cons (pv 0) (pa_cons (pe_op op_sub (pv 1) pe_int) pa_nil)))))
theorem eq_F__law_line_right_b : F__law_line_right_b = runC 3 1 8 X__law_line_right_b := by unfold F__law_line_right_b; rfl
theorem c__law_line_right (F : Dfn K mg "_law_line_right" s__law_line_right ["_law_line", "_law_houses", "_law_roads", "_law_orders"]) (B : Bm mg) (c__law_end_in : CalG P w K mg base 2 "_law_end_in" (spF F__law_end_in)) (c__law_number_in : CalG P w K mg base 1 "_law_number_in" (spF F__law_number_in)) : CalG P w K mg base 3 "_law_line_right" (spC 3 F__law_line_right_b) := by
  rw [eq_F__law_line_right_b]
  refine cal_g F sc__law_line_right (fun vs H Q E h => len_C (m := 3) (n := 1) h) (fun f cdv A outer s H E hG hr => ⟨T__law_line_right_b, ?_, fun vs Q h => go_C (m := 3) (n := 1) (k := 8) (ss__law_line_right_b) rfl h⟩)
  unfold T__law_line_right_b
  exact pss_cons (ps_set (i := 4) sc__law_line_right.nd rfl (.inl rfl) (pe_splitS (pv 0) pe_str))
      (pss_cons (ps_if (pt_cmpR (op_eqX hr.units) (pe_ix ix_seq (pv 1) pe_int (fun _ _ => rfl)) pe_int (nomark _)) (pss_cons (ps_set (i := 5) sc__law_line_right.nd rfl (.inl rfl) (pe_g c__law_number_in hr (by decide) hG (by rfl) (pa_cons (pe_ix ix_seq (pv 4) (pe_un un_neg pe_int) (fun _ _ => rfl)) (pa_cons pe_int pa_nil))))
      (pss_cons (ps_if (PW.pt (pw_or (pt_cmpR (op_neD hr.units) (pe_callB call_len_seq (by rfl) B.n_len (by decide +kernel) (pa_cons (pv 4) pa_nil)) pe_int (nomark _)) (pw_or (pt_cmpR (op_neD hr.units) (pe_ix ix_seq (pv 4) pe_int (fun _ _ => rfl)) pe_str (nomark _)) (pw_or (pt_cmpR op_isU (pv 5) pe_non (nomark _)) (pw_or1 (pt_cmpR (op_eqX hr.units) (pv 5) pe_int (nomark _))))))) (pss_one (ps_ret pe_bl)) pss_nil)
      (pss_cons (ps_asg (pv 5) (pg_sub (pv 1) pe_int set_list))
      (pss_one (ps_ret pe_bl))))) pss_nil)
      (pss_cons (ps_if (pt_cmpR (op_eqX hr.units) (pe_ix ix_seq (pv 4) pe_int (fun _ _ => rfl)) pe_str (nomark _)) (pss_cons (ps_if (PW.pt (pw_or (pt_cmpR (op_neD hr.units) (pe_callB call_len_seq (by rfl) B.n_len (by decide +kernel) (pa_cons (pv 4) pa_nil)) pe_int (nomark _)) (pw_or (pt_cmpR (op_neD hr.units) (pv 3) (pe_lst pa_nil) (nomark _)) (pw_or1 (pt_cmpR (op_eqX hr.units) (pe_callB call_len_seq (by rfl) B.n_len (by decide +kernel) (pa_cons (pv 2) pa_nil)) pe_int (nomark _)))))) (pss_one (ps_ret pe_bl)) pss_nil)
      (pss_cons (ps_setLc (i := 6) (own := [("_law_word", 10)]) rfl sc__law_line_right.nd rfl rfl (sw_true rfl rfl rfl (by decide +kernel)) (PI.or (pi_list (pe_slice sl_U (pv 4) (po_some pe_int) (po_some pe_int))) (pi_tup (pe_slice sl_U (pv 4) (po_some pe_int) (po_some pe_int)))) (blkOk_by (N := N__law_line_right) (sc := defScope s__law_line_right) (by decide +kernel)) (fun _ _ _ _ _ => (pg_name (i := 10) sc__law_line_right.nd rfl (.inl rfl))) (fun _ _ _ _ _ => pts_nil) (fun _ _ _ _ _ => pe_g c__law_end_in hr (by decide) hG (by rfl) (pa_cons (pv 10) (pa_cons (pe_ix ix_seq (pv 1) pe_int (fun _ _ => rfl)) pa_nil))))
      (pss_cons (ps_if (PW.pt (pw_or (pt_cmpR (op_inU (u65 hr)) pe_non (pv 6) (by rfl)) (pw_or (pt_cmpR (op_eqX hr.units) (pe_ix ix_seq (pv 6) pe_int (fun _ _ => rfl)) (pe_ix ix_seq (pv 6) pe_int (fun _ _ => rfl)) (nomark _)) (pw_or1 (pt_cmpR op_isU (pe_g c__law_number_in hr (by decide) hG (by rfl) (pa_cons (pe_ix ix_seq (pv 4) pe_int (fun _ _ => rfl)) (pa_cons (pe_op op_pow pe_int pe_int) pa_nil))) pe_non (nomark _)))))) (pss_one (ps_ret pe_bl)) pss_nil)
      (pss_cons (ps_expr (pe_bm PySem.F.plainAttrs_list PySem.F.slot_list_append PySem.F.type_list_append mt_append (pv 2) (pa_cons (pv 6) pa_nil)))
      (pss_one (ps_ret pe_bl)))))) pss_nil)
      (pss_cons (ps_if (PW.pt (pw_or (pt_cmpR (op_eqX hr.units) (pv 2) (pe_lst pa_nil) (nomark _)) (pw_or (pt_cmpR (op_eqX hr.units) (pe_callB call_len_seq (by rfl) B.n_len (by decide +kernel) (pa_cons (pv 3) pa_nil)) (pe_op op_mulV pe_int (pe_ix ix_seq (pv 1) pe_int (fun _ _ => rfl))) (nomark _)) (pw_or1 (pt_cmpR (op_neD hr.units) (pe_callB call_len_seq (by rfl) B.n_len (by decide +kernel) (pa_cons (pv 4) pa_nil)) pe_int (nomark _)))))) (pss_one (ps_ret pe_bl)) pss_nil)
      (pss_cons (ps_asg (pe_tupF (pa_cons (pe_op op_fdivW (pe_callB call_len_seq (by rfl) B.n_len (by decide +kernel) (pa_cons (pv 3) pa_nil)) (pe_ix ix_seq (pv 1) pe_int (fun _ _ => rfl))) (pa_cons (pe_op op_mod (pe_callB call_len_seq (by rfl) B.n_len (by decide +kernel) (pa_cons (pv 3) pa_nil)) (pe_ix ix_seq (pv 1) pe_int (fun _ _ => rfl))) pa_nil))) (PG.or (pg_tup rfl (pgs_cons (pg_name (i := 7) sc__law_line_right.nd rfl (.inr rfl)) (pgs_cons (pg_name (i := 8) sc__law_line_right.nd rfl (.inr rfl)) pgs_nil))) (pg_unl rfl (pgs_cons (pg_name (i := 7) sc__law_line_right.nd rfl (.inr rfl)) (pgs_cons (pg_name (i := 8) sc__law_line_right.nd rfl (.inr rfl)) pgs_nil)))))
      (pss_cons (ps_set (i := 9) sc__law_line_right.nd rfl (.inl rfl) (pe_ifExp (pt_cmpR (op_eqX hr.units) (pe_ix ix_seq (pv 4) pe_int (fun _ _ => rfl)) pe_str (nomark _)) (pe_lst pa_nil) (pe_lc (own := [("_law_word", 10)]) rfl sc__law_line_right.nd (PI.or (pi_list (pe_splitS (pe_ix ix_seq (pv 4) pe_int (fun _ _ => rfl)) pe_str)) (pi_tup (pe_splitS (pe_ix ix_seq (pv 4) pe_int (fun _ _ => rfl)) pe_str))) (blkOk_by (N := N__law_line_right) (sc := defScope s__law_line_right) (by decide +kernel)) (fun _ _ _ _ _ => (pg_name (i := 10) sc__law_line_right.nd rfl (.inl rfl))) (fun _ _ _ _ _ => pts_nil) (fun _ _ _ _ _ => pe_g c__law_number_in hr (by decide) hG (by rfl) (pa_cons (pv 10) (pa_cons pe_int pa_nil))))))
      (pss_cons (ps_if (PW.pt (pw_or (pt_cmpR (op_neD hr.units) (pe_ix ix_seq (pv 4) pe_int (fun _ _ => rfl)) (pe_ix ix_seq (pe_lst (pa_cons pe_str (pa_cons pe_str pa_nil))) (pv 7) (fun _ _ => rfl)) (nomark _)) (pw_or1 (pt_cmpR (op_inU (u65 hr)) pe_non (pv 9) (by rfl))))) (pss_one (ps_ret pe_bl)) pss_nil)
      (pss_cons (ps_if (pt_cmpR (op_neD hr.units) (pe_callB cr_sortedU (by rfl) B.n_sorted (by decide +kernel) (pa_cons (pv 9) pa_nil)) (pe_lc (own := [("_law_k", 11)]) rfl sc__law_line_right.nd (pi_range1 (by rfl) B.n_range (pa_cons (pe_callB call_len_seq (by rfl) B.n_len (by decide +kernel) (pa_cons (pv 2) pa_nil)) pa_nil)) (blkOk_by (N := N__law_line_right) (sc := defScope s__law_line_right) (by decide +kernel)) (fun _ _ _ _ _ => (pg_name (i := 11) sc__law_line_right.nd rfl (.inl rfl))) (fun _ _ _ _ _ => pts_one (pt_cmpR (op_eqX hr.units) (pe_ix ix_seq (pe_ix ix_seq (pv 2) (pv 11) (fun _ _ => rfl)) (pv 7) (fun _ _ => rfl)) (pv 8) (nomark _))) (fun _ _ _ _ _ => (pv 11))) (nomark _)) (pss_one (ps_ret pe_bl)) pss_nil)
      (pss_cons (ps_expr (pe_bm PySem.F.plainAttrs_list PySem.F.slot_list_append PySem.F.type_list_append mt_append (pv 3) (pa_cons (pv 9) pa_nil)))
      (pss_one (ps_ret pe_bl))))))))))
theorem eq_F__law_text_fault_b : F__law_text_fault_b = runP 1 7 X__law_text_fault_b := by unfold F__law_text_fault_b; rfl
theorem c__law_text_fault (F : Dfn K mg "_law_text_fault" s__law_text_fault ["_law_thing"]) (B : Bm mg) (c__law_line_right : CalG P w K mg base 3 "_law_line_right" (spC 3 F__law_line_right_b)) : CalG P w K mg base 4 "_law_text_fault" (spF F__law_text_fault_b) := by
  rw [eq_F__law_text_fault_b]
  refine cal_g F sc__law_text_fault (fun vs H Q E h => len_F h) (fun f cdv A outer s H E hG hr => ⟨T__law_text_fault_b, ?_, fun vs Q h => go_P (n := 1) (k := 7) (ss__law_text_fault_b) rfl h⟩)
  unfold T__law_text_fault_b
  exact pss_cons (ps_if (pt_not (pt_val (pe_callB call_isi (by rfl) B.n_isinstance (by decide +kernel) (pa_cons (pv 0) (pa_cons (pe_bltn (v := .ty "str") (by rfl) B.n_str (by decide +kernel) rfl) pa_nil))))) (pss_one (ps_ret pe_non)) pss_nil)
      (pss_cons (ps_set (i := 1) sc__law_text_fault.nd rfl (.inl rfl) (pe_splitS (pv 0) pe_str))
      (pss_cons (ps_set (i := 2) sc__law_text_fault.nd rfl (.inl rfl) (pe_op op_addU (pe_slice sl_U (pv 1) po_none (po_some (pe_un un_neg pe_int))) (pe_op op_mulV (pe_slice sl_U (pv 1) (po_some (pe_un un_neg pe_int)) po_none) (pe_callTy call_int1 (by rfl) B.n_int (by decide +kernel) (pa_cons (pe_cmpR (op_neD hr.units) (pe_ix ix_seq (pv 1) (pe_un un_neg pe_int) (fun _ _ => rfl)) pe_str (nomark _)) pa_nil)))))
      (pss_cons (Uv.ps_par3 (i := 3) (j := 4) (k := 5) rfl sc__law_text_fault.nd rfl rfl rfl (by decide) (by decide) (by decide) rfl rfl rfl (pa_cons (pe_lst (pa_cons pe_int pa_nil)) (pa_cons (pe_lst pa_nil) (pa_cons (pe_lst pa_nil) pa_nil))) rfl)
      (pss_cons (ps_for PassesOwn.never rfl (PI.or (pi_enum (by rfl) B.n_enumerate (pa_cons (pv 2) pa_nil)) (Un.pi_enumT (by rfl) B.n_enumerate (pa_cons (pv 2) pa_nil))) (PG.or (pg_tup rfl (pgs_cons (pg_name (i := 6) sc__law_text_fault.nd rfl (.inl rfl)) (pgs_cons (pg_name (i := 7) sc__law_text_fault.nd rfl (.inl rfl)) pgs_nil))) (pg_unl rfl (pgs_cons (pg_name (i := 6) sc__law_text_fault.nd rfl (.inl rfl)) (pgs_cons (pg_name (i := 7) sc__law_text_fault.nd rfl (.inl rfl)) pgs_nil)))) (pss_one (ps_if (pt_not (pt_val (pe_g c__law_line_right hr (by decide) hG (by rfl) (pa_cons (pv 7) (pa_cons (pv 3) (pa_cons (pv 4) (pa_cons (pv 5) pa_nil))))))) (pss_one (ps_ret (pv 6))) pss_nil)))
      (pss_cons (ps_if (PW.pt (pw_or (pt_cmpR (op_eqX hr.units) (pe_ix ix_seq (pv 3) pe_int (fun _ _ => rfl)) pe_int (nomark _)) (pw_or (pt_cmpR op_lt (pe_callB call_len_seq (by rfl) B.n_len (by decide +kernel) (pa_cons (pv 5) pa_nil)) (pe_op op_mulV pe_int (pe_ix ix_seq (pv 3) pe_int (fun _ _ => rfl))) (nomark _)) (pw_or1 (pt_cmpR (op_neD hr.units) (pe_ix ix_seq (pv 1) (pe_un un_neg pe_int) (fun _ _ => rfl)) pe_str (nomark _)))))) (pss_one (ps_ret (pe_callB call_len_seq (by rfl) B.n_len (by decide +kernel) (pa_cons (pv 2) pa_nil)))) pss_nil)
      (pss_one (ps_ret (pe_un un_neg pe_int))))))))
theorem eq_F_check_text_c : F_check_text_c = runP 1 0 X_check_text_c := by unfold F_check_text_c; rfl
theorem c_check_text (F : Dfn K mg "check_text" s_check_text ["thing"]) (B : Bm mg) (Z : HF mg w cA dA) (V : HR P w mg base cA) : CalX P w K mg base 3 "check_text" (spZ F_check_text_c) := by
  rw [eq_F_check_text_c]
  refine cal_x F sc_check_text (fun vs H Q E h => len_Z h) (fun f cdv A outer s H E hG hr => ⟨T_check_text_c (fun cls d _ H => E cls d H) w cA dA, ?_, fun vs Q h => go_Z (n := 1) (k := 0) (ss_check_text_c Z) rfl h⟩)
  unfold T_check_text_c
  exact pss_one (ps_if (pt_not (pt_val (pe_callB call_isi (by rfl) B.n_isinstance (by decide +kernel) (pa_cons (pv 0) (pa_cons (pe_bltn (v := .ty "str") (by rfl) B.n_str (by decide +kernel) rfl) pa_nil))))) (pss_one (ps_rvI V.v_NoText rfl (takes_of rfl rfl rfl rfl) hr (by decide) (by rfl) pe_non)) pss_nil)
theorem eq_F_houses_line : F_houses_line = runP 1 0 X_houses_line := by unfold F_houses_line; rfl
theorem c_houses_line (F : Dfn K mg "houses_line" s_houses_line ["houses"]) (B : Bm mg) : CalG P w K mg base 1 "houses_line" (spF F_houses_line) := by
  rw [eq_F_houses_line]
  refine cal_g F sc_houses_line (fun vs H Q E h => len_F h) (fun f cdv A outer s H E hG hr => ⟨T_houses_line, ?_, fun vs Q h => go_P (n := 1) (k := 0) (ss_houses_line) rfl h⟩)
  unfold T_houses_line
  exact pss_one (ps_ret (pe_joined (PJ.cons pe_str (PJ.cons (pe_fmt (pv 0)) PJ.nil))))
theorem eq_F_read_houses_c : F_read_houses_c = runP 1 1 X_read_houses_c := by unfold F_read_houses_c; rfl
theorem c_read_houses (F : Dfn K mg "read_houses" s_read_houses ["lines"]) (B : Bm mg) (Z : HF mg w cA dA) (V : HR P w mg base cA) {t_HOUSES : Tok} (m_HOUSES : mg "HOUSES" = some (.int 8 t_HOUSES)) (c_houses_line : CalG P w K mg base 1 "houses_line" (spF F_houses_line)) : CalX P w K mg base 3 "read_houses" (spZ F_read_houses_c) := by
  rw [eq_F_read_houses_c]
  refine cal_x F sc_read_houses (fun vs H Q E h => len_Z h) (fun f cdv A outer s H E hG hr => ⟨T_read_houses_c (fun cls d _ H => E cls d H) w cA dA, ?_, fun vs Q h => go_Z (n := 1) (k := 1) (ss_read_houses_c Z) rfl h⟩)
  unfold T_read_houses_c
  exact pss_cons (ps_for (passes_of rfl) rfl (pi_range2 (by rfl) B.n_range (pa_cons pe_int (pa_cons (pe_op op_addU (pe_glob (by rfl) m_HOUSES ⟨_, rfl⟩) pe_int) pa_nil))) (pg_name (i := 1) sc_read_houses.nd rfl (.inl rfl)) (pss_one (ps_if (pt_cmpR (op_eqX hr.units) (pe_ix ix_seq (pv 0) pe_int (fun _ _ => rfl)) (pe_g c_houses_line hr (by decide) hG (by rfl) (pa_cons (pv 1) pa_nil)) (nomark _)) (pss_one (ps_ret (pv 1))) pss_nil)))
      (pss_one (ps_rvI V.v_NoText rfl (takes_of rfl rfl rfl rfl) hr (by decide) (by rfl) pe_int))
theorem eq_F_is_number : F_is_number = runP 1 0 X_is_number := by unfold F_is_number; rfl
theorem c_is_number (F : Dfn K mg "is_number" s_is_number ["thing"]) (B : Bm mg) : CalG P w K mg base 1 "is_number" (spF F_is_number) := by
  rw [eq_F_is_number]
  refine cal_g F sc_is_number (fun vs H Q E h => len_F h) (fun f cdv A outer s H E hG hr => ⟨T_is_number, ?_, fun vs Q h => go_P (n := 1) (k := 0) (ss_is_number) rfl h⟩)
  unfold T_is_number
  exact pss_one (ps_ret (pe_and (pe_callB call_isi (by rfl) B.n_isinstance (by decide +kernel) (pa_cons (pv 0) (pa_cons (pe_bltn (v := .ty "int") (by rfl) B.n_int (by decide +kernel) rfl) pa_nil))) (pe_one (pe_not (pe_callB call_isi (by rfl) B.n_isinstance (by decide +kernel) (pa_cons (pv 0) (pa_cons (pe_bltn (v := .ty "bool") (by rfl) B.n_bool (by decide +kernel) rfl) pa_nil)))))))
theorem eq_F_is_order : F_is_order = runP 2 1 X_is_order := by unfold F_is_order; rfl
theorem c_is_order (F : Dfn K mg "is_order" s_is_order ["thing", "numbers"]) (B : Bm mg) (c_is_number : CalG P w K mg base 1 "is_number" (spF F_is_number)) : CalG P w K mg base 2 "is_order" (spF F_is_order) := by
  rw [eq_F_is_order]
  refine cal_g F sc_is_order (fun vs H Q E h => len_F h) (fun f cdv A outer s H E hG hr => ⟨T_is_order, ?_, fun vs Q h => go_P (n := 2) (k := 1) (ss_is_order) rfl h⟩)
  unfold T_is_order
  exact pss_one (ps_ret (pe_and (pe_callB call_isi (by rfl) B.n_isinstance (by decide +kernel) (pa_cons (pv 0) (pa_cons (pe_bltn (v := .ty "tuple") (by rfl) B.n_tuple (by decide +kernel) rfl) pa_nil))) (pe_and (pe_callB (cr_all rfl) (by rfl) B.n_all (by decide +kernel) (pa_cons (pe_lc (own := [("number", 2)]) rfl sc_is_order.nd (PI.or (pi_list (pv 0)) (pi_tup (pv 0))) (blkOk_by (N := N_is_order) (sc := defScope s_is_order) (by decide +kernel)) (fun _ _ _ _ _ => (pg_name (i := 2) sc_is_order.nd rfl (.inl rfl))) (fun _ _ _ _ _ => pts_nil) (fun _ _ _ _ _ => pe_g c_is_number hr (by decide) hG (by rfl) (pa_cons (pv 2) pa_nil))) pa_nil)) (pe_one (pe_cmpR (op_eqX hr.units) (pe_callB cr_sortedU (by rfl) B.n_sorted (by decide +kernel) (pa_cons (pv 0) pa_nil)) (pv 1) (nomark _))))))
theorem eq_F_order_line : F_order_line = runP 2 2 X_order_line := by unfold F_order_line; rfl
theorem c_order_line (F : Dfn K mg "order_line" s_order_line ["word", "order"]) (B : Bm mg) : CalG P w K mg base 1 "order_line" (spF F_order_line) := by
  rw [eq_F_order_line]
  refine cal_g F sc_order_line (fun vs H Q E h => len_F h) (fun f cdv A outer s H E hG hr => ⟨T_order_line, ?_, fun vs Q h => go_P (n := 2) (k := 2) (ss_order_line) rfl h⟩)
  unfold T_order_line
  exact pss_cons (ps_set (i := 2) sc_order_line.nd rfl (.inl rfl) (pe_ifExp (pt_cmpR (op_gtU hr.units) (pe_callB call_len_seq (by rfl) B.n_len (by decide +kernel) (pa_cons (pv 1) pa_nil)) pe_int (nomark _)) (pe_joinS pe_str (pe_lc (own := [("road", 3)]) rfl sc_order_line.nd (PI.or (pi_list (pv 1)) (pi_tup (pv 1))) (blkOk_by (N := N_order_line) (sc := defScope s_order_line) (by decide +kernel)) (fun _ _ _ _ _ => (pg_name (i := 3) sc_order_line.nd rfl (.inl rfl))) (fun _ _ _ _ _ => pts_nil) (fun _ _ _ _ _ => pe_callTy cr_str1 (by rfl) B.n_str (by decide +kernel) (pa_cons (pv 3) pa_nil)))) pe_str))
      (pss_one (ps_ret (pe_joined (PJ.cons (pe_fmt (pv 0)) (PJ.cons pe_str (PJ.cons (pe_fmt (pv 2)) PJ.nil))))))
theorem eq_F_number_in : F_number_in = runP 1 0 X_number_in := by unfold F_number_in; rfl
theorem c_number_in (F : Dfn K mg "number_in" s_number_in ["word"]) (B : Bm mg) {t_FIGURES : Tok} (m_FIGURES : mg "FIGURES" = some (.int 13 t_FIGURES)) : CalG P w K mg base 1 "number_in" (spF F_number_in) := by
  rw [eq_F_number_in]
  refine cal_g F sc_number_in (fun vs H Q E h => len_F h) (fun f cdv A outer s H E hG hr => ⟨T_number_in, ?_, fun vs Q h => go_P (n := 1) (k := 0) (ss_number_in) rfl h⟩)
  unfold T_number_in
  exact pss_cons (ps_if (PW.pt (pw_or (pt_not (pt_val (pe_ascS (pv 0)))) (pw_or (pt_not (pt_val (pe_digS (pv 0)))) (pw_or1 (pt_cmpR (op_gtU hr.units) (pe_callB call_len_str (by rfl) B.n_len (by decide +kernel) (pa_cons (pv 0) pa_nil)) (pe_glob (by rfl) m_FIGURES ⟨_, rfl⟩) (nomark _)))))) (pss_one (ps_ret pe_non)) pss_nil)
      (pss_cons (ps_if (PW.pt (pw_and (pt_val (pe_startS (pv 0) pe_str)) (pw_and1 (pt_cmpR (op_neD hr.units) (pv 0) pe_str (nomark _))))) (pss_one (ps_ret pe_non)) pss_nil)
      (pss_one (ps_ret (pe_callTy call_int_str (by rfl) B.n_int (by decide +kernel) (pa_cons (pv 0) pa_nil)))))
theorem eq_F_roads_in : F_roads_in = runP 1 2 X_roads_in := by unfold F_roads_in; rfl
theorem c_roads_in (F : Dfn K mg "roads_in" s_roads_in ["word"]) (B : Bm mg) (c_number_in : CalG P w K mg base 1 "number_in" (spF F_number_in)) : CalG P w K mg base 2 "roads_in" (spF F_roads_in) := by
  rw [eq_F_roads_in]
  refine cal_g F sc_roads_in (fun vs H Q E h => len_F h) (fun f cdv A outer s H E hG hr => ⟨T_roads_in, ?_, fun vs Q h => go_P (n := 1) (k := 2) (ss_roads_in) rfl h⟩)
  unfold T_roads_in
  exact pss_cons (ps_if (pt_cmpR (op_eqX hr.units) (pv 0) pe_str (nomark _)) (pss_one (ps_ret (pe_tupF pa_nil))) pss_nil)
      (pss_cons (ps_set (i := 1) sc_roads_in.nd rfl (.inl rfl) (pe_callTy cr_tupF (by rfl) B.n_tuple (by decide +kernel) (pa_cons (pe_lc (own := [("part", 2)]) rfl sc_roads_in.nd (PI.or (pi_list (pe_splitS (pv 0) pe_str)) (pi_tup (pe_splitS (pv 0) pe_str))) (blkOk_by (N := N_roads_in) (sc := defScope s_roads_in) (by decide +kernel)) (fun _ _ _ _ _ => (pg_name (i := 2) sc_roads_in.nd rfl (.inl rfl))) (fun _ _ _ _ _ => pts_nil) (fun _ _ _ _ _ => pe_g c_number_in hr (by decide) hG (by rfl) (pa_cons (pv 2) pa_nil))) pa_nil)))
      (pss_one (ps_ret (pe_ifExp (pt_cmpR (op_inU (u65 hr)) pe_non (pv 1) (by rfl)) pe_non (pv 1)))))
theorem eq_F_read_order_c : F_read_order_c = runP 4 1 X_read_order_c := by unfold F_read_order_c; rfl
theorem c_read_order (F : Dfn K mg "read_order" s_read_order ["lines", "at", "word", "roads"]) (B : Bm mg) (Z : HF mg w cA dA) (V : HR P w mg base cA) (c_is_order : CalG P w K mg base 2 "is_order" (spF F_is_order)) (c_order_line : CalG P w K mg base 1 "order_line" (spF F_order_line)) (c_roads_in : CalG P w K mg base 2 "roads_in" (spF F_roads_in)) : CalX P w K mg base 3 "read_order" (spZ F_read_order_c) := by
  rw [eq_F_read_order_c]
  refine cal_x F sc_read_order (fun vs H Q E h => len_Z h) (fun f cdv A outer s H E hG hr => ⟨T_read_order_c (fun cls d _ H => E cls d H) w cA dA, ?_, fun vs Q h => go_Z (n := 4) (k := 1) (ss_read_order_c Z) rfl h⟩)
  unfold T_read_order_c
  exact pss_cons (ps_if (pt_cmpR op_lt (pv 1) (pe_callB call_len_seq (by rfl) B.n_len (by decide +kernel) (pa_cons (pv 0) pa_nil)) (nomark _)) (pss_cons (ps_set (i := 4) sc_read_order.nd rfl (.inl rfl) (pe_g c_roads_in hr (by decide) hG (by rfl) (pa_cons (pe_ix ix_seq (pe_splitS (pe_ix ix_seq (pv 0) (pv 1) (fun _ _ => rfl)) pe_str) (pe_un un_neg pe_int) (fun _ _ => rfl)) pa_nil)))
      (pss_one (ps_if (PW.pt (pw_and (pt_val (pe_g c_is_order hr (by decide) hG (by rfl) (pa_cons (pv 4) (pa_cons (pv 3) pa_nil)))) (pw_and1 (pt_cmpR (op_eqX hr.units) (pe_g c_order_line hr (by decide) hG (by rfl) (pa_cons (pv 2) (pa_cons (pv 4) pa_nil))) (pe_ix ix_seq (pv 0) (pv 1) (fun _ _ => rfl)) (nomark _))))) (pss_one (ps_ret (pv 4))) pss_nil))) pss_nil)
      (pss_one (ps_rvI V.v_NoText rfl (takes_of rfl rfl rfl rfl) hr (by decide) (by rfl) (pv 1)))
theorem eq_F_read_orders_c : F_read_orders_c = runP 5 3 X_read_orders_c := by unfold F_read_orders_c; rfl
theorem c_read_orders (F : Dfn K mg "read_orders" s_read_orders ["lines", "first", "word", "ends", "houses"]) (B : Bm mg) (Z : HF mg w cA dA) (V : HR P w mg base cA) (c_read_order : CalX P w K mg base 3 "read_order" (spZ F_read_order_c)) : CalX P w K mg base 4 "read_orders" (spZ F_read_orders_c) := by
  rw [eq_F_read_orders_c]
  refine cal_x F sc_read_orders (fun vs H Q E h => len_Z h) (fun f cdv A outer s H E hG hr => ⟨T_read_orders_c (fun cls d _ H => E cls d H) w cA dA, ?_, fun vs Q h => go_Z (n := 5) (k := 3) (ss_read_orders_c Z) rfl h⟩)
  unfold T_read_orders_c
  exact pss_one (ps_ret (pe_callTy cr_tupF (by rfl) B.n_tuple (by decide +kernel) (pa_cons (pe_lcZ (own := [("house", 5)]) rfl rfl rfl (takes_of rfl rfl rfl rfl) rfl sc_read_orders.nd (pi_range1 (by rfl) B.n_range (pa_cons (pv 4) pa_nil)) (blkOk_by (N := N_read_orders) (sc := defScope s_read_orders) (by decide +kernel)) (fun _ _ _ _ _ => (pg_name (i := 5) sc_read_orders.nd rfl (.inr rfl))) (fun _ _ _ _ _ => pts_nil) (fun s' H' C' cl' fp' W' E' tk' => pe_gxF c_read_order hr (by decide) hG (by rfl) tk' (pa_cons (pv 0) (pa_cons (pe_op op_addU (pv 1) (pv 5)) (pa_cons (pv 2) (pa_cons (pe_lc (own := [("road", 6), ("end", 7)]) rfl sc_read_orders.nd (PI.or (pi_enum (by rfl) B.n_enumerate (pa_cons (pv 3) pa_nil)) (Un.pi_enumT (by rfl) B.n_enumerate (pa_cons (pv 3) pa_nil))) (blkOk_in (s := s') (H := H') (C := C') (cl := cl') (fp := fp') (N := N_read_orders) rfl (by decide +kernel)) (fun _ _ _ _ _ => (PG.or (pg_tup rfl (pgs_cons (pg_name (i := 6) sc_read_orders.nd rfl (.inl rfl)) (pgs_cons (pg_name (i := 7) sc_read_orders.nd rfl (.inl rfl)) pgs_nil))) (pg_unl rfl (pgs_cons (pg_name (i := 6) sc_read_orders.nd rfl (.inl rfl)) (pgs_cons (pg_name (i := 7) sc_read_orders.nd rfl (.inl rfl)) pgs_nil))))) (fun _ _ _ _ _ => pts_one (pt_cmpR (op_eqX hr.units) (pv 7) (pv 5) (nomark _))) (fun _ _ _ _ _ => (pv 6))) pa_nil)))))) pa_nil)))
theorem eq_F_is_number_to : F_is_number_to = runP 2 0 X_is_number_to := by unfold F_is_number_to; rfl
theorem c_is_number_to (F : Dfn K mg "is_number_to" s_is_number_to ["thing", "most"]) (B : Bm mg) (c_is_number : CalG P w K mg base 1 "is_number" (spF F_is_number)) : CalG P w K mg base 2 "is_number_to" (spF F_is_number_to) := by
  rw [eq_F_is_number_to]
  refine cal_g F sc_is_number_to (fun vs H Q E h => len_F h) (fun f cdv A outer s H E hG hr => ⟨T_is_number_to, ?_, fun vs Q h => go_P (n := 2) (k := 0) (ss_is_number_to) rfl h⟩)
  unfold T_is_number_to
  exact pss_one (ps_ret (pe_and (pe_g c_is_number hr (by decide) hG (by rfl) (pa_cons (pv 0) pa_nil)) (pe_one (pe_chain op_le op_le pe_int (pv 0) (pv 1)))))
theorem eq_F_is_end : F_is_end = runP 2 0 X_is_end := by unfold F_is_end; rfl
theorem c_is_end (F : Dfn K mg "is_end" s_is_end ["thing", "houses"]) (B : Bm mg) (c_is_number_to : CalG P w K mg base 2 "is_number_to" (spF F_is_number_to)) : CalG P w K mg base 3 "is_end" (spF F_is_end) := by
  rw [eq_F_is_end]
  refine cal_g F sc_is_end (fun vs H Q E h => len_F h) (fun f cdv A outer s H E hG hr => ⟨T_is_end, ?_, fun vs Q h => go_P (n := 2) (k := 0) (ss_is_end) rfl h⟩)
  unfold T_is_end
  exact pss_one (ps_ret (pe_or (pe_cmpR op_isU (pv 0) pe_non (nomark _)) (pe_one (pe_g c_is_number_to hr (by decide) hG (by rfl) (pa_cons (pv 0) (pa_cons (pe_op op_sub (pv 1) pe_int) pa_nil))))))
theorem eq_F_is_tuple_of : F_is_tuple_of = runP 3 0 X_is_tuple_of := by unfold F_is_tuple_of; rfl
theorem c_is_tuple_of (F : Dfn K mg "is_tuple_of" s_is_tuple_of ["thing", "least", "most"]) (B : Bm mg) : CalG P w K mg base 1 "is_tuple_of" (spF F_is_tuple_of) := by
  rw [eq_F_is_tuple_of]
  refine cal_g F sc_is_tuple_of (fun vs H Q E h => len_F h) (fun f cdv A outer s H E hG hr => ⟨T_is_tuple_of, ?_, fun vs Q h => go_P (n := 3) (k := 0) (ss_is_tuple_of) rfl h⟩)
  unfold T_is_tuple_of
  exact pss_one (ps_ret (pe_and (pe_callB call_isi (by rfl) B.n_isinstance (by decide +kernel) (pa_cons (pv 0) (pa_cons (pe_bltn (v := .ty "tuple") (by rfl) B.n_tuple (by decide +kernel) rfl) pa_nil))) (pe_one (pe_chain op_le op_le (pv 1) (pe_callB call_len_seq (by rfl) B.n_len (by decide +kernel) (pa_cons (pv 0) pa_nil)) (pv 2)))))
theorem eq_F_road_fault : F_road_fault = runP 3 3 X_road_fault := by unfold F_road_fault; rfl
theorem c_road_fault (F : Dfn K mg "road_fault" s_road_fault ["number", "road", "houses"]) (B : Bm mg) {t_GREAT : Tok} (m_GREAT : mg "GREAT" = some (.int 1000000000000 t_GREAT)) (c_is_end : CalG P w K mg base 3 "is_end" (spF F_is_end)) (c_is_number_to : CalG P w K mg base 2 "is_number_to" (spF F_is_number_to)) (c_is_tuple_of : CalG P w K mg base 1 "is_tuple_of" (spF F_is_tuple_of)) : CalG P w K mg base 4 "road_fault" (spF F_road_fault) := by
  rw [eq_F_road_fault]
  refine cal_g F sc_road_fault (fun vs H Q E h => len_F h) (fun f cdv A outer s H E hG hr => ⟨T_road_fault, ?_, fun vs Q h => go_P (n := 3) (k := 3) (ss_road_fault) rfl h⟩)
  unfold T_road_fault
  exact pss_cons (ps_if (pt_not (pt_val (pe_g c_is_tuple_of hr (by decide) hG (by rfl) (pa_cons (pv 1) (pa_cons pe_int (pa_cons pe_int pa_nil)))))) (pss_one (ps_ret (pe_tupF (pa_cons (pe_tupF (pa_cons pe_int (pa_cons (pv 0) pa_nil))) (pa_cons pe_str pa_nil))))) pss_nil)
      (pss_cons (ps_asg (pv 1) (PG.or (pg_tup rfl (pgs_cons (pg_name (i := 3) sc_road_fault.nd rfl (.inl rfl)) (pgs_cons (pg_name (i := 4) sc_road_fault.nd rfl (.inl rfl)) (pgs_cons (pg_name (i := 5) sc_road_fault.nd rfl (.inl rfl)) pgs_nil)))) (pg_unl rfl (pgs_cons (pg_name (i := 3) sc_road_fault.nd rfl (.inl rfl)) (pgs_cons (pg_name (i := 4) sc_road_fault.nd rfl (.inl rfl)) (pgs_cons (pg_name (i := 5) sc_road_fault.nd rfl (.inl rfl)) pgs_nil))))))
      (pss_cons (ps_if (pt_not (pt_val (pe_g c_is_end hr (by decide) hG (by rfl) (pa_cons (pv 3) (pa_cons (pv 2) pa_nil))))) (pss_one (ps_ret (pe_tupF (pa_cons (pe_tupF (pa_cons pe_int (pa_cons (pv 0) (pa_cons pe_int pa_nil)))) (pa_cons pe_str pa_nil))))) pss_nil)
      (pss_cons (ps_if (pt_not (pt_val (pe_g c_is_end hr (by decide) hG (by rfl) (pa_cons (pv 4) (pa_cons (pv 2) pa_nil))))) (pss_one (ps_ret (pe_tupF (pa_cons (pe_tupF (pa_cons pe_int (pa_cons (pv 0) (pa_cons pe_int pa_nil)))) (pa_cons pe_str pa_nil))))) pss_nil)
      (pss_cons (ps_if (pt_cmpR (op_eqX hr.units) (pv 3) (pv 4) (nomark _)) (pss_one (ps_ret (pe_tupF (pa_cons (pe_tupF (pa_cons pe_int (pa_cons (pv 0) pa_nil))) (pa_cons pe_str pa_nil))))) pss_nil)
      (pss_cons (ps_if (pt_not (pt_val (pe_g c_is_number_to hr (by decide) hG (by rfl) (pa_cons (pv 5) (pa_cons (pe_glob (by rfl) m_GREAT ⟨_, rfl⟩) pa_nil))))) (pss_one (ps_ret (pe_tupF (pa_cons (pe_tupF (pa_cons pe_int (pa_cons (pv 0) (pa_cons pe_int pa_nil)))) (pa_cons pe_str pa_nil))))) pss_nil)
      (pss_one (ps_ret pe_non)))))))
theorem eq_F_end_word : F_end_word = runP 1 0 X_end_word := by unfold F_end_word; rfl
theorem c_end_word (F : Dfn K mg "end_word" s_end_word ["end"]) (B : Bm mg) : CalG P w K mg base 1 "end_word" (spF F_end_word) := by
  rw [eq_F_end_word]
  refine cal_g F sc_end_word (fun vs H Q E h => len_F h) (fun f cdv A outer s H E hG hr => ⟨T_end_word, ?_, fun vs Q h => go_P (n := 1) (k := 0) (ss_end_word) rfl h⟩)
  unfold T_end_word
  exact pss_one (ps_ret (pe_ifExp (pt_cmpR op_isU (pv 0) pe_non (nomark _)) pe_str (pe_callTy cr_str1 (by rfl) B.n_str (by decide +kernel) (pa_cons (pv 0) pa_nil))))
theorem eq_F_road_line : F_road_line = runP 1 3 X_road_line := by unfold F_road_line; rfl
theorem c_road_line (F : Dfn K mg "road_line" s_road_line ["road"]) (B : Bm mg) (c_end_word : CalG P w K mg base 1 "end_word" (spF F_end_word)) : CalG P w K mg base 2 "road_line" (spF F_road_line) := by
  rw [eq_F_road_line]
  refine cal_g F sc_road_line (fun vs H Q E h => len_F h) (fun f cdv A outer s H E hG hr => ⟨T_road_line, ?_, fun vs Q h => go_P (n := 1) (k := 3) (ss_road_line) rfl h⟩)
  unfold T_road_line
  exact pss_cons (ps_asg (pv 0) (PG.or (pg_tup rfl (pgs_cons (pg_name (i := 1) sc_road_line.nd rfl (.inl rfl)) (pgs_cons (pg_name (i := 2) sc_road_line.nd rfl (.inl rfl)) (pgs_cons (pg_name (i := 3) sc_road_line.nd rfl (.inl rfl)) pgs_nil)))) (pg_unl rfl (pgs_cons (pg_name (i := 1) sc_road_line.nd rfl (.inl rfl)) (pgs_cons (pg_name (i := 2) sc_road_line.nd rfl (.inl rfl)) (pgs_cons (pg_name (i := 3) sc_road_line.nd rfl (.inl rfl)) pgs_nil))))))
      (pss_one (ps_ret (pe_joined (PJ.cons pe_str (PJ.cons (pe_fmt (pe_g c_end_word hr (by decide) hG (by rfl) (pa_cons (pv 1) pa_nil))) (PJ.cons pe_str (PJ.cons (pe_fmt (pe_g c_end_word hr (by decide) hG (by rfl) (pa_cons (pv 2) pa_nil))) (PJ.cons pe_str (PJ.cons (pe_fmt (pv 3)) PJ.nil)))))))))
theorem eq_F_read_roads_c : F_read_roads_c = runP 2 4 X_read_roads_c := by unfold F_read_roads_c; rfl
theorem c_read_roads (F : Dfn K mg "read_roads" s_read_roads ["lines", "houses"]) (B : Bm mg) (Z : HF mg w cA dA) (V : HR P w mg base cA) {t_ROADS : Tok} (m_ROADS : mg "ROADS" = some (.int 20 t_ROADS)) (c_number_in : CalG P w K mg base 1 "number_in" (spF F_number_in)) (c_road_fault : CalG P w K mg base 4 "road_fault" (spF F_road_fault)) (c_road_line : CalG P w K mg base 2 "road_line" (spF F_road_line)) : CalX P w K mg base 5 "read_roads" (spZ F_read_roads_c) := by
  rw [eq_F_read_roads_c]
  refine cal_x F sc_read_roads (fun vs H Q E h => len_Z h) (fun f cdv A outer s H E hG hr => ⟨T_read_roads_c (fun cls d _ H => E cls d H) w cA dA, ?_, fun vs Q h => go_Z (n := 2) (k := 4) (ss_read_roads_c Z) rfl h⟩)
  unfold T_read_roads_c
  exact pss_cons (ps_set (i := 2) sc_read_roads.nd rfl (.inl rfl) (pe_lst pa_nil))
      (pss_cons (ps_for (passes_of rfl) rfl (PI.or (pi_list (pe_slice sl_U (pv 0) (po_some pe_int) (po_some (pe_op op_addU (pe_glob (by rfl) m_ROADS ⟨_, rfl⟩) pe_int)))) (pi_tup (pe_slice sl_U (pv 0) (po_some pe_int) (po_some (pe_op op_addU (pe_glob (by rfl) m_ROADS ⟨_, rfl⟩) pe_int))))) (pg_name (i := 3) sc_read_roads.nd rfl (.inl rfl)) (pss_cons (ps_set (i := 4) sc_read_roads.nd rfl (.inl rfl) (pe_callTy cr_tupF (by rfl) B.n_tuple (by decide +kernel) (pa_cons (pe_lc (own := [("word", 5)]) rfl sc_read_roads.nd (PI.or (pi_list (pe_slice sl_U (pe_splitS (pv 3) pe_str) (po_some pe_int) po_none)) (pi_tup (pe_slice sl_U (pe_splitS (pv 3) pe_str) (po_some pe_int) po_none))) (blkOk_by (N := N_read_roads) (sc := defScope s_read_roads) (by decide +kernel)) (fun _ _ _ _ _ => (pg_name (i := 5) sc_read_roads.nd rfl (.inl rfl))) (fun _ _ _ _ _ => pts_nil) (fun _ _ _ _ _ => pe_g c_number_in hr (by decide) hG (by rfl) (pa_cons (pv 5) pa_nil))) pa_nil)))
      (pss_cons (ps_if (PW.pt (pw_or (pt_cmpR op_notU (pe_g c_road_fault hr (by decide) hG (by rfl) (pa_cons (pe_callB call_len_seq (by rfl) B.n_len (by decide +kernel) (pa_cons (pv 2) pa_nil)) (pa_cons (pv 4) (pa_cons (pv 1) pa_nil)))) pe_non (nomark _)) (pw_or1 (pt_cmpR (op_neD hr.units) (pe_g c_road_line hr (by decide) hG (by rfl) (pa_cons (pv 4) pa_nil)) (pv 3) (nomark _))))) (pss_one ps_break) pss_nil)
      (pss_one (ps_expr (pe_bm PySem.F.plainAttrs_list PySem.F.slot_list_append PySem.F.type_list_append mt_append (pv 2) (pa_cons (pv 4) pa_nil)))))))
      (pss_cons (ps_if (pt_cmpR (op_eqX hr.units) (pe_callB call_len_seq (by rfl) B.n_len (by decide +kernel) (pa_cons (pv 2) pa_nil)) pe_int (nomark _)) (pss_one (ps_rvI V.v_NoText rfl (takes_of rfl rfl rfl rfl) hr (by decide) (by rfl) pe_int)) pss_nil)
      (pss_one (ps_ret (pe_callTy cr_tupF (by rfl) B.n_tuple (by decide +kernel) (pa_cons (pv 2) pa_nil))))))
theorem eq_F_web_text : F_web_text = runP 1 7 X_web_text := by unfold F_web_text; rfl
theorem c_web_text (F : Dfn K mg "web_text" s_web_text ["web"]) (B : Bm mg) (c_houses_line : CalG P w K mg base 1 "houses_line" (spF F_houses_line)) (c_order_line : CalG P w K mg base 1 "order_line" (spF F_order_line)) (c_road_line : CalG P w K mg base 2 "road_line" (spF F_road_line)) : CalG P w K mg base 3 "web_text" (spF F_web_text) := by
  rw [eq_F_web_text]
  refine cal_g F sc_web_text (fun vs H Q E h => len_F h) (fun f cdv A outer s H E hG hr => ⟨T_web_text, ?_, fun vs Q h => go_P (n := 1) (k := 7) (ss_web_text) rfl h⟩)
  unfold T_web_text
  exact pss_cons (ps_asg (pv 0) (PG.or (pg_tup rfl (pgs_cons (pg_name (i := 1) sc_web_text.nd rfl (.inl rfl)) (pgs_cons (pg_name (i := 2) sc_web_text.nd rfl (.inl rfl)) (pgs_cons (pg_name (i := 3) sc_web_text.nd rfl (.inl rfl)) pgs_nil)))) (pg_unl rfl (pgs_cons (pg_name (i := 1) sc_web_text.nd rfl (.inl rfl)) (pgs_cons (pg_name (i := 2) sc_web_text.nd rfl (.inl rfl)) (pgs_cons (pg_name (i := 3) sc_web_text.nd rfl (.inl rfl)) pgs_nil))))))
      (pss_cons (ps_set (i := 4) sc_web_text.nd rfl (.inl rfl) (pe_lst (pa_cons (pe_g c_houses_line hr (by decide) hG (by rfl) (pa_cons (pe_callB call_len_seq (by rfl) B.n_len (by decide +kernel) (pa_cons (pv 2) pa_nil)) pa_nil)) pa_nil)))
      (pss_cons (ps_expr (pe_bm PySem.F.plainAttrs_list PySem.F.slot_list_extend PySem.F.type_list_extend mt_extend (pv 4) (pa_cons (pe_lc (own := [("road", 5)]) rfl sc_web_text.nd (PI.or (pi_list (pv 1)) (pi_tup (pv 1))) (blkOk_by (N := N_web_text) (sc := defScope s_web_text) (by decide +kernel)) (fun _ _ _ _ _ => (pg_name (i := 5) sc_web_text.nd rfl (.inl rfl))) (fun _ _ _ _ _ => pts_nil) (fun _ _ _ _ _ => pe_g c_road_line hr (by decide) hG (by rfl) (pa_cons (pv 5) pa_nil))) pa_nil)))
      (pss_cons (ps_expr (pe_bm PySem.F.plainAttrs_list PySem.F.slot_list_extend PySem.F.type_list_extend mt_extend (pv 4) (pa_cons (pe_lc (own := [("order", 6)]) rfl sc_web_text.nd (PI.or (pi_list (pv 2)) (pi_tup (pv 2))) (blkOk_by (N := N_web_text) (sc := defScope s_web_text) (by decide +kernel)) (fun _ _ _ _ _ => (pg_name (i := 6) sc_web_text.nd rfl (.inl rfl))) (fun _ _ _ _ _ => pts_nil) (fun _ _ _ _ _ => pe_g c_order_line hr (by decide) hG (by rfl) (pa_cons pe_str (pa_cons (pv 6) pa_nil)))) pa_nil)))
      (pss_cons (ps_expr (pe_bm PySem.F.plainAttrs_list PySem.F.slot_list_extend PySem.F.type_list_extend mt_extend (pv 4) (pa_cons (pe_lc (own := [("order", 6)]) rfl sc_web_text.nd (PI.or (pi_list (pv 3)) (pi_tup (pv 3))) (blkOk_by (N := N_web_text) (sc := defScope s_web_text) (by decide +kernel)) (fun _ _ _ _ _ => (pg_name (i := 6) sc_web_text.nd rfl (.inl rfl))) (fun _ _ _ _ _ => pts_nil) (fun _ _ _ _ _ => pe_g c_order_line hr (by decide) hG (by rfl) (pa_cons pe_str (pa_cons (pv 6) pa_nil)))) pa_nil)))
      (pss_one (ps_ret (pe_joinS pe_str (pe_lc (own := [("line", 7)]) rfl sc_web_text.nd (PI.or (pi_list (pv 4)) (pi_tup (pv 4))) (blkOk_by (N := N_web_text) (sc := defScope s_web_text) (by decide +kernel)) (fun _ _ _ _ _ => (pg_name (i := 7) sc_web_text.nd rfl (.inl rfl))) (fun _ _ _ _ _ => pts_nil) (fun _ _ _ _ _ => pe_op op_addX (pv 7) pe_str)))))))))
theorem eq_F_read_web_c : F_read_web_c = runP 1 9 X_read_web_c := by unfold F_read_web_c; rfl
theorem c_read_web (F : Dfn K mg "read_web" s_read_web ["thing"]) (B : Bm mg) (Z : HF mg w cA dA) (V : HR P w mg base cA) (c_check_text : CalX P w K mg base 3 "check_text" (spZ F_check_text_c)) (c_read_houses : CalX P w K mg base 3 "read_houses" (spZ F_read_houses_c)) (c_read_orders : CalX P w K mg base 4 "read_orders" (spZ F_read_orders_c)) (c_read_roads : CalX P w K mg base 5 "read_roads" (spZ F_read_roads_c)) (c_web_text : CalG P w K mg base 3 "web_text" (spF F_web_text)) : CalX P w K mg base 6 "read_web" (spZ F_read_web_c) := by
  rw [eq_F_read_web_c]
  refine cal_x F sc_read_web (fun vs H Q E h => len_Z h) (fun f cdv A outer s H E hG hr => ⟨T_read_web_c (fun cls d _ H => E cls d H) w cA dA, ?_, fun vs Q h => go_Z (n := 1) (k := 9) (ss_read_web_c Z) rfl h⟩)
  unfold T_read_web_c
  exact pss_cons (ps_expr (pe_gx c_check_text hr (by decide) hG (by rfl) (takes_of rfl rfl rfl rfl) (pa_cons (pv 0) pa_nil)))
      (pss_cons (ps_set (i := 1) sc_read_web.nd rfl (.inl rfl) (pe_splitS (pv 0) pe_str))
      (pss_cons (ps_set (i := 2) sc_read_web.nd rfl (.inl rfl) (pe_gx c_read_houses hr (by decide) hG (by rfl) (takes_of rfl rfl rfl rfl) (pa_cons (pv 1) pa_nil)))
      (pss_cons (ps_set (i := 3) sc_read_web.nd rfl (.inl rfl) (pe_gx c_read_roads hr (by decide) hG (by rfl) (takes_of rfl rfl rfl rfl) (pa_cons (pv 1) (pa_cons (pv 2) pa_nil))))
      (pss_cons (ps_set (i := 4) sc_read_web.nd rfl (.inl rfl) (pe_gx c_read_orders hr (by decide) hG (by rfl) (takes_of rfl rfl rfl rfl) (pa_cons (pv 1) (pa_cons (pe_op op_addU pe_int (pe_callB call_len_seq (by rfl) B.n_len (by decide +kernel) (pa_cons (pv 3) pa_nil))) (pa_cons pe_str (pa_cons (pe_lc (own := [("begin", 7), ("end", 8), ("room", 9)]) rfl sc_read_web.nd (PI.or (pi_list (pv 3)) (pi_tup (pv 3))) (blkOk_by (N := N_read_web) (sc := defScope s_read_web) (by decide +kernel)) (fun _ _ _ _ _ => (PG.or (pg_tup rfl (pgs_cons (pg_name (i := 7) sc_read_web.nd rfl (.inl rfl)) (pgs_cons (pg_name (i := 8) sc_read_web.nd rfl (.inl rfl)) (pgs_cons (pg_name (i := 9) sc_read_web.nd rfl (.inl rfl)) pgs_nil)))) (pg_unl rfl (pgs_cons (pg_name (i := 7) sc_read_web.nd rfl (.inl rfl)) (pgs_cons (pg_name (i := 8) sc_read_web.nd rfl (.inl rfl)) (pgs_cons (pg_name (i := 9) sc_read_web.nd rfl (.inl rfl)) pgs_nil)))))) (fun _ _ _ _ _ => pts_nil) (fun _ _ _ _ _ => (pv 7))) (pa_cons (pv 2) pa_nil)))))))
      (pss_cons (ps_set (i := 5) sc_read_web.nd rfl (.inl rfl) (pe_gx c_read_orders hr (by decide) hG (by rfl) (takes_of rfl rfl rfl rfl) (pa_cons (pv 1) (pa_cons (pe_op op_addU (pe_op op_addU pe_int (pe_callB call_len_seq (by rfl) B.n_len (by decide +kernel) (pa_cons (pv 3) pa_nil))) (pv 2)) (pa_cons pe_str (pa_cons (pe_lc (own := [("begin", 7), ("end", 8), ("room", 9)]) rfl sc_read_web.nd (PI.or (pi_list (pv 3)) (pi_tup (pv 3))) (blkOk_by (N := N_read_web) (sc := defScope s_read_web) (by decide +kernel)) (fun _ _ _ _ _ => (PG.or (pg_tup rfl (pgs_cons (pg_name (i := 7) sc_read_web.nd rfl (.inl rfl)) (pgs_cons (pg_name (i := 8) sc_read_web.nd rfl (.inl rfl)) (pgs_cons (pg_name (i := 9) sc_read_web.nd rfl (.inl rfl)) pgs_nil)))) (pg_unl rfl (pgs_cons (pg_name (i := 7) sc_read_web.nd rfl (.inl rfl)) (pgs_cons (pg_name (i := 8) sc_read_web.nd rfl (.inl rfl)) (pgs_cons (pg_name (i := 9) sc_read_web.nd rfl (.inl rfl)) pgs_nil)))))) (fun _ _ _ _ _ => pts_nil) (fun _ _ _ _ _ => (pv 8))) (pa_cons (pv 2) pa_nil)))))))
      (pss_cons (ps_set (i := 6) sc_read_web.nd rfl (.inl rfl) (pe_tupF (pa_cons (pv 3) (pa_cons (pv 4) (pa_cons (pv 5) pa_nil)))))
      (pss_cons (ps_if (pt_cmpR (op_neD hr.units) (pe_g c_web_text hr (by decide) hG (by rfl) (pa_cons (pv 6) pa_nil)) (pv 0) (nomark _)) (pss_one (ps_rvI V.v_NoText rfl (takes_of rfl rfl rfl rfl) hr (by decide) (by rfl) (pe_op op_addU (pe_op op_addU pe_int (pe_callB call_len_seq (by rfl) B.n_len (by decide +kernel) (pa_cons (pv 3) pa_nil))) (pe_op op_mulV pe_int (pv 2))))) pss_nil)
      (pss_one (ps_ret (pv 6))))))))))
theorem eq_F__law_told_w : F__law_told_w = runP 1 2 X__law_told_w := by unfold F__law_told_w; rfl
theorem c__law_told (F : Dfn K mg "_law_told" s__law_told ["_law_thing"]) (B : Bm mg) (Z : HF mg w cA dA) (V : HR P w mg base cA) (c_read_web : CalX P w K mg base 6 "read_web" (spZ F_read_web_c)) (c_web_text : CalG P w K mg base 3 "web_text" (spF F_web_text)) : CalG P w K mg base 7 "_law_told" (spF F__law_told_w) := by
  rw [eq_F__law_told_w]
  refine cal_g F sc__law_told (fun vs H Q E h => len_F h) (fun f cdv A outer s H E hG hr => ⟨T__law_told_w w cA dA, ?_, fun vs Q h => go_P (n := 1) (k := 2) (ss__law_told_w Z) rfl h⟩)
  unfold T__law_told_w
  exact pss_cons (ps_set (i := 1) sc__law_told.nd rfl (.inl rfl) pe_non)
      (pss_cons (ps_tryG rfl rfl (fun W pn xe tk _ => pss_one (ps_set (i := 1) sc__law_told.nd rfl (.inl rfl) (pe_lst (pa_cons pe_str (pa_cons (pe_g c_web_text hr (by decide) hG (by rfl) (pa_cons (pe_gx c_read_web hr (by decide) hG (by rfl) tk (pa_cons (pv 0) pa_nil)) pa_nil)) pa_nil))))) (ph_as sc__law_told.nd rfl rfl rfl (txm_name ⟨rfl, by decide, .inl Z.g_WebError⟩) (fun a pn => pss_cons (ps_set (i := 1) sc__law_told.nd rfl (.inl rfl) (pe_lst (pa_cons pe_str (pa_cons pe_non pa_nil))))
      (pss_one (ps_if (PW.pt (pw_and (pt_val (pe_callB call_isX (by rfl) B.n_isinstance (by decide +kernel) (pa_cons (pv 2) (pa_cons (pe_glob (v := .ref (cA 16)) (by rfl) Z.g_NoText rfl) pa_nil)))) (pw_and1 (pt_not (pt_val (pe_callB call_isXT (by rfl) B.n_isinstance (by decide +kernel) (pa_cons (pv 2) (pa_cons (pe_tup (pa_cons (pe_glob (v := .ref (cA 5)) (by rfl) Z.g_BadOrder rfl) (pa_cons (pe_glob (v := .ref (cA 1)) (by rfl) Z.g_BadWeb rfl) (pa_cons (pe_glob (v := .ref (cA 11)) (by rfl) Z.g_Broken rfl) (pa_cons (pe_glob (v := .ref (cA 15)) (by rfl) Z.g_NoStream rfl) pa_nil))))) pa_nil)))))))) (pss_one (ps_set (i := 1) sc__law_told.nd rfl (.inl rfl) (pe_lst (pa_cons pe_str (pa_cons (pe_xat (pv 2)) pa_nil))))) pss_nil))) (ph_nil rfl takes_no)))
      (pss_one (ps_ret (pv 1))))
theorem eq_F__law_order : F__law_order = runW 1 2 X__law_order := by unfold F__law_order; rfl
theorem c__law_order (F : Dfn K mg "_law_order" s__law_order ["_law_deck_here", "_law_numbers"]) (B : Bm mg) (c__law_next : CalG P w K mg base 1 "_law_next" (spW F__law_next)) : CalG P w K mg base 2 "_law_order" (spW F__law_order) := by
  rw [eq_F__law_order]
  refine cal_g F sc__law_order (fun vs H Q E h => len_W h) (fun f cdv A outer s H E hG hr => ⟨T__law_order, ?_, fun vs Q h => go_W (n := 1) (k := 2) (ss__law_order) rfl h⟩)
  unfold T__law_order
  exact pss_cons (ps_set (i := 2) sc__law_order.nd rfl (.inl rfl) (pe_lst pa_nil))
      (pss_cons (ps_for PassesOwn.never rfl (PI.or (pi_list (pv 1)) (pi_tup (pv 1))) (pg_name (i := 3) sc__law_order.nd rfl (.inl rfl)) (pss_one (ps_expr (pe_bm PySem.F.plainAttrs_list PySem.F.slot_list_insert PySem.F.type_list_insert mt_insert (pv 2) (pa_cons (pe_g c__law_next hr (by decide) hG (by rfl) (pa_cons (pv 0) (pa_cons (pe_op op_addU (pe_callB call_len_seq (by rfl) B.n_len (by decide +kernel) (pa_cons (pv 2) pa_nil)) pe_int) pa_nil))) (pa_cons (pv 3) pa_nil))))))
      (pss_one (ps_ret (pe_callTy cr_tupF (by rfl) B.n_tuple (by decide +kernel) (pa_cons (pv 2) pa_nil)))))
theorem eq_F__law_one : F__law_one = runW 1 0 X__law_one := by unfold F__law_one; rfl
theorem c__law_one (F : Dfn K mg "_law_one" s__law_one ["_law_deck_here", "_law_some"]) (B : Bm mg) (c__law_next : CalG P w K mg base 1 "_law_next" (spW F__law_next)) : CalG P w K mg base 2 "_law_one" (spW F__law_one) := by
  rw [eq_F__law_one]
  refine cal_g F sc__law_one (fun vs H Q E h => len_W h) (fun f cdv A outer s H E hG hr => ⟨T__law_one, ?_, fun vs Q h => go_W (n := 1) (k := 0) (ss__law_one) rfl h⟩)
  unfold T__law_one
  exact pss_one (ps_ret (pe_ix ix_seq (pv 1) (pe_g c__law_next hr (by decide) hG (by rfl) (pa_cons (pv 0) (pa_cons (pe_callB call_len_seq (by rfl) B.n_len (by decide +kernel) (pa_cons (pv 1) pa_nil)) pa_nil))) (fun _ _ => rfl)))
theorem eq_F__law_room : F__law_room = runW 1 2 X__law_room := by unfold F__law_room; rfl
theorem c__law_room (F : Dfn K mg "_law_room" s__law_room ["_law_deck_here", "_law_far"]) (B : Bm mg) (c__law_next : CalG P w K mg base 1 "_law_next" (spW F__law_next)) (c__law_one : CalG P w K mg base 2 "_law_one" (spW F__law_one)) : CalG P w K mg base 3 "_law_room" (spW F__law_room) := by
  rw [eq_F__law_room]
  refine cal_g F sc__law_room (fun vs H Q E h => len_W h) (fun f cdv A outer s H E hG hr => ⟨T__law_room, ?_, fun vs Q h => go_W (n := 1) (k := 2) (ss__law_room) rfl h⟩)
  unfold T__law_room
  exact pss_cons (ps_set (i := 2) sc__law_room.nd rfl (.inl rfl) (pe_g c__law_one hr (by decide) hG (by rfl) (pa_cons (pv 0) (pa_cons (pe_lst (pa_cons pe_int (pa_cons pe_int (pa_cons pe_int (pa_cons pe_int (pa_cons pe_int (pa_cons pe_int pa_nil))))))) pa_nil))))
      (pss_cons (ps_set (i := 3) sc__law_room.nd rfl (.inl rfl) (pe_g c__law_one hr (by decide) hG (by rfl) (pa_cons (pv 0) (pa_cons (pe_lst (pa_cons pe_int (pa_cons pe_int (pa_cons (pe_op op_pow pe_int pe_int) (pa_cons (pe_op op_sub (pe_op op_pow pe_int pe_int) (pe_g c__law_next hr (by decide) hG (by rfl) (pa_cons (pv 0) (pa_cons pe_int pa_nil)))) (pa_cons (pe_g c__law_next hr (by decide) hG (by rfl) (pa_cons (pv 0) (pa_cons (pe_op op_pow pe_int pe_int) pa_nil))) pa_nil)))))) pa_nil))))
      (pss_one (ps_ret (pe_ix ix_seq (pe_lst (pa_cons (pv 2) (pa_cons (pv 3) pa_nil))) (pe_callTy call_int1 (by rfl) B.n_int (by decide +kernel) (pa_cons (pv 1) pa_nil)) (fun _ _ => rfl)))))
theorem eq_F__law_road : F__law_road = runW 2 5 X__law_road := by unfold F__law_road; rfl
theorem c__law_road (F : Dfn K mg "_law_road" s__law_road ["_law_deck_here", "_law_houses", "_law_far"]) (B : Bm mg) (c__law_next : CalG P w K mg base 1 "_law_next" (spW F__law_next)) (c__law_room : CalG P w K mg base 3 "_law_room" (spW F__law_room)) : CalG P w K mg base 4 "_law_road" (spW F__law_road) := by
  rw [eq_F__law_road]
  refine cal_g F sc__law_road (fun vs H Q E h => len_W h) (fun f cdv A outer s H E hG hr => ⟨T__law_road, ?_, fun vs Q h => go_W (n := 2) (k := 5) (ss__law_road) rfl h⟩)
  unfold T__law_road
  exact pss_cons (ps_set (i := 3) sc__law_road.nd rfl (.inl rfl) (pe_g c__law_next hr (by decide) hG (by rfl) (pa_cons (pv 0) (pa_cons (pe_op op_addU (pv 1) pe_int) pa_nil))))
      (pss_cons (ps_set (i := 4) sc__law_road.nd rfl (.inl rfl) (pe_op op_mod (pe_op op_addU (pe_op op_addU (pv 3) pe_int) (pe_g c__law_next hr (by decide) hG (by rfl) (pa_cons (pv 0) (pa_cons (pv 1) pa_nil)))) (pe_op op_addU (pv 1) pe_int)))
      (pss_cons (ps_asg (pe_lc (own := [("_law_number", 7)]) rfl sc__law_road.nd (PI.or (pi_list (pe_tupF (pa_cons (pv 3) (pa_cons (pv 4) pa_nil)))) (pi_tup (pe_tupF (pa_cons (pv 3) (pa_cons (pv 4) pa_nil))))) (blkOk_by (N := N__law_road) (sc := defScope s__law_road) (by decide +kernel)) (fun _ _ _ _ _ => (pg_name (i := 7) sc__law_road.nd rfl (.inl rfl))) (fun _ _ _ _ _ => pts_nil) (fun _ _ _ _ _ => pe_ix ix_seq (pe_lst (pa_cons pe_non (pa_cons (pe_op op_sub (pv 7) pe_int) pa_nil))) (pe_callTy call_int1 (by rfl) B.n_int (by decide +kernel) (pa_cons (pe_cmpR (op_gtU hr.units) (pv 7) pe_int (nomark _)) pa_nil)) (fun _ _ => rfl))) (PG.or (pg_tup rfl (pgs_cons (pg_name (i := 5) sc__law_road.nd rfl (.inl rfl)) (pgs_cons (pg_name (i := 6) sc__law_road.nd rfl (.inl rfl)) pgs_nil))) (pg_unl rfl (pgs_cons (pg_name (i := 5) sc__law_road.nd rfl (.inl rfl)) (pgs_cons (pg_name (i := 6) sc__law_road.nd rfl (.inl rfl)) pgs_nil)))))
      (pss_one (ps_ret (pe_tupF (pa_cons (pv 5) (pa_cons (pv 6) (pa_cons (pe_g c__law_room hr (by decide) hG (by rfl) (pa_cons (pv 0) (pa_cons (pv 2) pa_nil))) pa_nil))))))))
theorem eq_F__law_web : F__law_web = runW 3 7 X__law_web := by unfold F__law_web; rfl
theorem c__law_web (F : Dfn K mg "_law_web" s__law_web ["_law_deck_here", "_law_houses", "_law_roads", "_law_far"]) (B : Bm mg) (c__law_next : CalG P w K mg base 1 "_law_next" (spW F__law_next)) (c__law_order : CalG P w K mg base 2 "_law_order" (spW F__law_order)) (c__law_road : CalG P w K mg base 4 "_law_road" (spW F__law_road)) : CalG P w K mg base 5 "_law_web" (spW F__law_web) := by
  rw [eq_F__law_web]
  refine cal_g F sc__law_web (fun vs H Q E h => len_W h) (fun f cdv A outer s H E hG hr => ⟨T__law_web, ?_, fun vs Q h => go_W (n := 3) (k := 7) (ss__law_web) rfl h⟩)
  unfold T__law_web
  exact pss_cons (ps_set (i := 4) sc__law_web.nd rfl (.inr rfl) (pe_op op_addU pe_int (pe_g c__law_next hr (by decide) hG (by rfl) (pa_cons (pv 0) (pa_cons (pv 1) pa_nil)))))
      (pss_cons (ps_set (i := 5) sc__law_web.nd rfl (.inr rfl) (pe_lc (own := [("_law_k", 10)]) rfl sc__law_web.nd (pi_range1 (by rfl) B.n_range (pa_cons (pe_op op_addU pe_int (pe_g c__law_next hr (by decide) hG (by rfl) (pa_cons (pv 0) (pa_cons (pv 2) pa_nil)))) pa_nil)) (blkOk_by (N := N__law_web) (sc := defScope s__law_web) (by decide +kernel)) (fun _ _ _ _ _ => (pg_name (i := 10) sc__law_web.nd rfl (.inl rfl))) (fun _ _ _ _ _ => pts_nil) (fun _ _ _ _ _ => pe_g c__law_road hr (by decide) hG (by rfl) (pa_cons (pv 0) (pa_cons (pv 4) (pa_cons (pv 3) pa_nil))))))
      (pss_cons (ps_set (i := 6) sc__law_web.nd rfl (.inl rfl) (pe_lst pa_nil))
      (pss_cons (ps_for PassesOwn.never rfl (PI.or (pi_list (pe_tupF (pa_cons pe_int (pa_cons pe_int pa_nil)))) (pi_tup (pe_tupF (pa_cons pe_int (pa_cons pe_int pa_nil))))) (pg_name (i := 7) sc__law_web.nd rfl (.inr rfl)) (pss_cons (ps_set (i := 8) sc__law_web.nd rfl (.inl rfl) (pe_lst pa_nil))
      (pss_cons (ps_for PassesOwn.never rfl (pi_range1 (by rfl) B.n_range (pa_cons (pv 4) pa_nil)) (pg_name (i := 9) sc__law_web.nd rfl (.inr rfl)) (pss_one (ps_expr (pe_bm PySem.F.plainAttrs_list PySem.F.slot_list_append PySem.F.type_list_append mt_append (pv 8) (pa_cons (pe_g c__law_order hr (by decide) hG (by rfl) (pa_cons (pv 0) (pa_cons (pe_lc (own := [("_law_k", 10)]) rfl sc__law_web.nd (pi_range1 (by rfl) B.n_range (pa_cons (pe_callB call_len_seq (by rfl) B.n_len (by decide +kernel) (pa_cons (pv 5) pa_nil)) pa_nil)) (blkOk_by (N := N__law_web) (sc := defScope s__law_web) (by decide +kernel)) (fun _ _ _ _ _ => (pg_name (i := 10) sc__law_web.nd rfl (.inl rfl))) (fun _ _ _ _ _ => pts_one (pt_cmpR (op_eqX hr.units) (pe_ix ix_seq (pe_ix ix_seq (pv 5) (pv 10) (fun _ _ => rfl)) (pv 7) (fun _ _ => rfl)) (pv 9) (nomark _))) (fun _ _ _ _ _ => (pv 10))) pa_nil))) pa_nil)))))
      (pss_one (ps_expr (pe_bm PySem.F.plainAttrs_list PySem.F.slot_list_append PySem.F.type_list_append mt_append (pv 6) (pa_cons (pe_callTy cr_tupF (by rfl) B.n_tuple (by decide +kernel) (pa_cons (pv 8) pa_nil)) pa_nil)))))))
      (pss_one (ps_ret (pe_tupF (pa_cons (pe_callTy cr_tupF (by rfl) B.n_tuple (by decide +kernel) (pa_cons (pv 5) pa_nil)) (pa_cons (pe_ix ix_seq (pv 6) pe_int (fun _ _ => rfl)) (pa_cons (pe_ix ix_seq (pv 6) pe_int (fun _ _ => rfl)) pa_nil)))))))))
theorem eq_F_law_z202 : F_law_z202 = runP 1 8 X_law_z202 := by unfold F_law_z202; rfl
theorem ok_law {f : Addr} {fd : FuncData} (F : Fun K "law" "law" s_law f fd) (B : Bm mg) (c__law_deck : CalG P w K mg base 1 "_law_deck" (spD F__law_deck_h)) (c__law_next : CalG P w K mg base 1 "_law_next" (spW F__law_next)) (c__law_spoilt : CalG P w K mg base 3 "_law_spoilt" (spW F__law_spoilt_c)) (c__law_text_fault : CalG P w K mg base 4 "_law_text_fault" (spF F__law_text_fault_b)) (c__law_told : CalG P w K mg base 7 "_law_told" (spF F__law_told_w)) (c__law_web : CalG P w K mg base 5 "_law_web" (spW F__law_web)) (c_web_text : CalG P w K mg base 3 "web_text" (spF F_web_text)) : FnG P w K mg base 8 f fd ["_law_script"] (spF F_law_z202) := by
  rw [eq_F_law_z202]
  refine fn_g F sc_law (fun vs H Q E h => len_F h) (fun cdv A outer s H E hG hr => ⟨T_law_z202, ?_, fun vs Q h => go_P (n := 1) (k := 8) (ss_law_z202) rfl h⟩)
  unfold T_law_z202
  exact pss_cons (ps_set (i := 1) sc_law.nd rfl (.inl rfl) (pe_g c__law_deck hr (by decide) hG (by rfl) (pa_cons (pv 0) pa_nil)))
      (pss_cons (ps_for PassesOwn.never rfl (pi_range1 (by rfl) B.n_range (pa_cons pe_int pa_nil)) (pg_name (i := 2) sc_law.nd rfl (.inl rfl)) (pss_cons (ps_set (i := 3) sc_law.nd rfl (.inl rfl) (pe_g c_web_text hr (by decide) hG (by rfl) (pa_cons (pe_g c__law_web hr (by decide) hG (by rfl) (pa_cons (pv 1) (pa_cons pe_int (pa_cons pe_int (pa_cons (pe_cmpR (op_eqX hr.units) (pe_g c__law_next hr (by decide) hG (by rfl) (pa_cons (pv 1) (pa_cons pe_int pa_nil))) pe_int (nomark _)) pa_nil))))) pa_nil)))
      (pss_cons (ps_set (i := 4) sc_law.nd rfl (.inl rfl) (pe_lst (pa_cons (pv 3) (pa_cons (pe_op op_addX (pv 3) pe_str) (pa_cons (pe_slice sl_str (pv 3) po_none (po_some (pe_un un_neg pe_int))) (pa_cons pe_str (pa_cons pe_str (pa_cons pe_str (pa_cons pe_str pa_nil)))))))))
      (pss_cons (ps_for PassesOwn.never rfl (pi_range1 (by rfl) B.n_range (pa_cons pe_int pa_nil)) (pg_name (i := 5) sc_law.nd rfl (.inl rfl)) (pss_cons (ps_set (i := 6) sc_law.nd rfl (.inl rfl) (pe_g c__law_spoilt hr (by decide) hG (by rfl) (pa_cons (pv 1) (pa_cons (pv 3) pa_nil))))
      (pss_cons (ps_if (pt_cmpR (op_eqX hr.units) (pe_g c__law_next hr (by decide) hG (by rfl) (pa_cons (pv 1) (pa_cons pe_int pa_nil))) pe_int (nomark _)) (pss_one (ps_set (i := 6) sc_law.nd rfl (.inl rfl) (pe_g c__law_spoilt hr (by decide) hG (by rfl) (pa_cons (pv 1) (pa_cons (pv 6) pa_nil))))) pss_nil)
      (pss_one (ps_expr (pe_bm PySem.F.plainAttrs_list PySem.F.slot_list_append PySem.F.type_list_append mt_append (pv 4) (pa_cons (pv 6) pa_nil)))))))
      (pss_one (ps_for PassesOwn.never rfl (PI.or (pi_list (pe_op op_addX (pv 4) (pe_lst (pa_cons pe_non (pa_cons pe_int (pa_cons pe_bl (pa_cons (pe_tupF (pa_cons (pv 3) pa_nil)) (pa_cons (pe_lst (pa_cons (pv 3) pa_nil)) (pa_cons pe_dnewK pa_nil))))))))) (pi_tup (pe_op op_addX (pv 4) (pe_lst (pa_cons pe_non (pa_cons pe_int (pa_cons pe_bl (pa_cons (pe_tupF (pa_cons (pv 3) pa_nil)) (pa_cons (pe_lst (pa_cons (pv 3) pa_nil)) (pa_cons pe_dnewK pa_nil)))))))))) (pg_name (i := 6) sc_law.nd rfl (.inl rfl)) (pss_cons (ps_set (i := 7) sc_law.nd rfl (.inl rfl) (pe_g c__law_text_fault hr (by decide) hG (by rfl) (pa_cons (pv 6) pa_nil)))
      (pss_cons (ps_set (i := 8) sc_law.nd rfl (.inl rfl) (pe_lst (pa_cons pe_str (pa_cons (pv 7) pa_nil))))
      (pss_cons (ps_if (pt_cmpR (op_eqX hr.units) (pv 7) (pe_un un_neg pe_int) (nomark _)) (pss_one (ps_set (i := 8) sc_law.nd rfl (.inl rfl) (pe_lst (pa_cons pe_str (pa_cons (pv 6) pa_nil))))) pss_nil)
      (pss_one (ps_if (PW.pt (pw_or (pt_cmpR (op_neD hr.units) (pe_callB (cr_repr hG (u65 hr)) (by rfl) B.n_repr (by decide +kernel) (pa_cons (pe_g c__law_told hr (by decide) hG (by rfl) (pa_cons (pv 6) pa_nil)) pa_nil)) (pe_callB (cr_repr hG (u65 hr)) (by rfl) B.n_repr (by decide +kernel) (pa_cons (pv 8) pa_nil)) (nomark _)) (pw_or1 (pt_cmpR (op_neD hr.units) (pe_callB (cr_repr hG (u65 hr)) (by rfl) B.n_repr (by decide +kernel) (pa_cons (pe_g c__law_told hr (by decide) hG (by rfl) (pa_cons (pv 6) pa_nil)) pa_nil)) (pe_callB (cr_repr hG (u65 hr)) (by rfl) B.n_repr (by decide +kernel) (pa_cons (pv 8) pa_nil)) (nomark _))))) (pss_one (ps_ret pe_bl)) pss_nil)))))))))))
      (pss_one (ps_ret pe_bl)))
end
theorem bi0 (kV doc pm : Value) (an : Option Addr) (cdv ct : Value) (us : List Value) (hl : us.length = 1) : bindArgs (PySem.W.fnOf "_law_deck" "_law_deck" (defArgs s__law_deck) (defBody s__law_deck) (defScope s__law_deck) .none kV doc pm an cdv ct) ⟨us, []⟩ = pure ((["_law_script"] : List Str).zip us) := match us, hl with | [_], _ => rfl
theorem bi1 (kV doc pm : Value) (an : Option Addr) (cdv ct : Value) (us : List Value) (hl : us.length = 2) : bindArgs (PySem.W.fnOf "_law_next" "_law_next" (defArgs s__law_next) (defBody s__law_next) (defScope s__law_next) .none kV doc pm an cdv ct) ⟨us, []⟩ = pure ((["_law_deck_here", "_law_many"] : List Str).zip us) := match us, hl with | [_, _], _ => rfl
theorem bi2 (kV doc pm : Value) (an : Option Addr) (cdv ct : Value) (us : List Value) (hl : us.length = 1) : bindArgs (PySem.W.fnOf "_law_sign" "_law_sign" (defArgs s__law_sign) (defBody s__law_sign) (defScope s__law_sign) .none kV doc pm an cdv ct) ⟨us, []⟩ = pure ((["_law_deck_here"] : List Str).zip us) := match us, hl with | [_], _ => rfl
theorem bi3 (kV doc pm : Value) (an : Option Addr) (cdv ct : Value) (us : List Value) (hl : us.length = 2) : bindArgs (PySem.W.fnOf "_law_spoilt" "_law_spoilt" (defArgs s__law_spoilt) (defBody s__law_spoilt) (defScope s__law_spoilt) .none kV doc pm an cdv ct) ⟨us, []⟩ = pure ((["_law_deck_here", "_law_text"] : List Str).zip us) := match us, hl with | [_, _], _ => rfl
theorem bi4 (kV doc pm : Value) (an : Option Addr) (cdv ct : Value) (us : List Value) (hl : us.length = 2) : bindArgs (PySem.W.fnOf "_law_number_in" "_law_number_in" (defArgs s__law_number_in) (defBody s__law_number_in) (defScope s__law_number_in) .none kV doc pm an cdv ct) ⟨us, []⟩ = pure ((["_law_word", "_law_most"] : List Str).zip us) := match us, hl with | [_, _], _ => rfl
theorem bi5 (kV doc pm : Value) (an : Option Addr) (cdv ct : Value) (us : List Value) (hl : us.length = 2) : bindArgs (PySem.W.fnOf "_law_end_in" "_law_end_in" (defArgs s__law_end_in) (defBody s__law_end_in) (defScope s__law_end_in) .none kV doc pm an cdv ct) ⟨us, []⟩ = pure ((["_law_word", "_law_houses"] : List Str).zip us) := match us, hl with | [_, _], _ => rfl
theorem bi6 (kV doc pm : Value) (an : Option Addr) (cdv ct : Value) (us : List Value) (hl : us.length = 4) : bindArgs (PySem.W.fnOf "_law_line_right" "_law_line_right" (defArgs s__law_line_right) (defBody s__law_line_right) (defScope s__law_line_right) .none kV doc pm an cdv ct) ⟨us, []⟩ = pure ((["_law_line", "_law_houses", "_law_roads", "_law_orders"] : List Str).zip us) := match us, hl with | [_, _, _, _], _ => rfl
theorem bi7 (kV doc pm : Value) (an : Option Addr) (cdv ct : Value) (us : List Value) (hl : us.length = 1) : bindArgs (PySem.W.fnOf "_law_text_fault" "_law_text_fault" (defArgs s__law_text_fault) (defBody s__law_text_fault) (defScope s__law_text_fault) .none kV doc pm an cdv ct) ⟨us, []⟩ = pure ((["_law_thing"] : List Str).zip us) := match us, hl with | [_], _ => rfl
theorem bi8 (kV doc pm : Value) (an : Option Addr) (cdv ct : Value) (us : List Value) (hl : us.length = 1) : bindArgs (PySem.W.fnOf "check_text" "check_text" (defArgs s_check_text) (defBody s_check_text) (defScope s_check_text) .none kV doc pm an cdv ct) ⟨us, []⟩ = pure ((["thing"] : List Str).zip us) := match us, hl with | [_], _ => rfl
theorem bi9 (kV doc pm : Value) (an : Option Addr) (cdv ct : Value) (us : List Value) (hl : us.length = 1) : bindArgs (PySem.W.fnOf "houses_line" "houses_line" (defArgs s_houses_line) (defBody s_houses_line) (defScope s_houses_line) .none kV doc pm an cdv ct) ⟨us, []⟩ = pure ((["houses"] : List Str).zip us) := match us, hl with | [_], _ => rfl
theorem bi10 (kV doc pm : Value) (an : Option Addr) (cdv ct : Value) (us : List Value) (hl : us.length = 1) : bindArgs (PySem.W.fnOf "read_houses" "read_houses" (defArgs s_read_houses) (defBody s_read_houses) (defScope s_read_houses) .none kV doc pm an cdv ct) ⟨us, []⟩ = pure ((["lines"] : List Str).zip us) := match us, hl with | [_], _ => rfl
theorem bi11 (kV doc pm : Value) (an : Option Addr) (cdv ct : Value) (us : List Value) (hl : us.length = 1) : bindArgs (PySem.W.fnOf "is_number" "is_number" (defArgs s_is_number) (defBody s_is_number) (defScope s_is_number) .none kV doc pm an cdv ct) ⟨us, []⟩ = pure ((["thing"] : List Str).zip us) := match us, hl with | [_], _ => rfl
theorem bi12 (kV doc pm : Value) (an : Option Addr) (cdv ct : Value) (us : List Value) (hl : us.length = 2) : bindArgs (PySem.W.fnOf "is_order" "is_order" (defArgs s_is_order) (defBody s_is_order) (defScope s_is_order) .none kV doc pm an cdv ct) ⟨us, []⟩ = pure ((["thing", "numbers"] : List Str).zip us) := match us, hl with | [_, _], _ => rfl
theorem bi13 (kV doc pm : Value) (an : Option Addr) (cdv ct : Value) (us : List Value) (hl : us.length = 2) : bindArgs (PySem.W.fnOf "order_line" "order_line" (defArgs s_order_line) (defBody s_order_line) (defScope s_order_line) .none kV doc pm an cdv ct) ⟨us, []⟩ = pure ((["word", "order"] : List Str).zip us) := match us, hl with | [_, _], _ => rfl
theorem bi14 (kV doc pm : Value) (an : Option Addr) (cdv ct : Value) (us : List Value) (hl : us.length = 1) : bindArgs (PySem.W.fnOf "number_in" "number_in" (defArgs s_number_in) (defBody s_number_in) (defScope s_number_in) .none kV doc pm an cdv ct) ⟨us, []⟩ = pure ((["word"] : List Str).zip us) := match us, hl with | [_], _ => rfl
theorem bi15 (kV doc pm : Value) (an : Option Addr) (cdv ct : Value) (us : List Value) (hl : us.length = 1) : bindArgs (PySem.W.fnOf "roads_in" "roads_in" (defArgs s_roads_in) (defBody s_roads_in) (defScope s_roads_in) .none kV doc pm an cdv ct) ⟨us, []⟩ = pure ((["word"] : List Str).zip us) := match us, hl with | [_], _ => rfl
theorem bi16 (kV doc pm : Value) (an : Option Addr) (cdv ct : Value) (us : List Value) (hl : us.length = 4) : bindArgs (PySem.W.fnOf "read_order" "read_order" (defArgs s_read_order) (defBody s_read_order) (defScope s_read_order) .none kV doc pm an cdv ct) ⟨us, []⟩ = pure ((["lines", "at", "word", "roads"] : List Str).zip us) := match us, hl with | [_, _, _, _], _ => rfl
theorem bi17 (kV doc pm : Value) (an : Option Addr) (cdv ct : Value) (us : List Value) (hl : us.length = 5) : bindArgs (PySem.W.fnOf "read_orders" "read_orders" (defArgs s_read_orders) (defBody s_read_orders) (defScope s_read_orders) .none kV doc pm an cdv ct) ⟨us, []⟩ = pure ((["lines", "first", "word", "ends", "houses"] : List Str).zip us) := match us, hl with | [_, _, _, _, _], _ => rfl
theorem bi18 (kV doc pm : Value) (an : Option Addr) (cdv ct : Value) (us : List Value) (hl : us.length = 2) : bindArgs (PySem.W.fnOf "is_number_to" "is_number_to" (defArgs s_is_number_to) (defBody s_is_number_to) (defScope s_is_number_to) .none kV doc pm an cdv ct) ⟨us, []⟩ = pure ((["thing", "most"] : List Str).zip us) := match us, hl with | [_, _], _ => rfl
theorem bi19 (kV doc pm : Value) (an : Option Addr) (cdv ct : Value) (us : List Value) (hl : us.length = 2) : bindArgs (PySem.W.fnOf "is_end" "is_end" (defArgs s_is_end) (defBody s_is_end) (defScope s_is_end) .none kV doc pm an cdv ct) ⟨us, []⟩ = pure ((["thing", "houses"] : List Str).zip us) := match us, hl with | [_, _], _ => rfl
theorem bi20 (kV doc pm : Value) (an : Option Addr) (cdv ct : Value) (us : List Value) (hl : us.length = 3) : bindArgs (PySem.W.fnOf "is_tuple_of" "is_tuple_of" (defArgs s_is_tuple_of) (defBody s_is_tuple_of) (defScope s_is_tuple_of) .none kV doc pm an cdv ct) ⟨us, []⟩ = pure ((["thing", "least", "most"] : List Str).zip us) := match us, hl with | [_, _, _], _ => rfl
theorem bi21 (kV doc pm : Value) (an : Option Addr) (cdv ct : Value) (us : List Value) (hl : us.length = 3) : bindArgs (PySem.W.fnOf "road_fault" "road_fault" (defArgs s_road_fault) (defBody s_road_fault) (defScope s_road_fault) .none kV doc pm an cdv ct) ⟨us, []⟩ = pure ((["number", "road", "houses"] : List Str).zip us) := match us, hl with | [_, _, _], _ => rfl
theorem bi22 (kV doc pm : Value) (an : Option Addr) (cdv ct : Value) (us : List Value) (hl : us.length = 1) : bindArgs (PySem.W.fnOf "end_word" "end_word" (defArgs s_end_word) (defBody s_end_word) (defScope s_end_word) .none kV doc pm an cdv ct) ⟨us, []⟩ = pure ((["end"] : List Str).zip us) := match us, hl with | [_], _ => rfl
theorem bi23 (kV doc pm : Value) (an : Option Addr) (cdv ct : Value) (us : List Value) (hl : us.length = 1) : bindArgs (PySem.W.fnOf "road_line" "road_line" (defArgs s_road_line) (defBody s_road_line) (defScope s_road_line) .none kV doc pm an cdv ct) ⟨us, []⟩ = pure ((["road"] : List Str).zip us) := match us, hl with | [_], _ => rfl
theorem bi24 (kV doc pm : Value) (an : Option Addr) (cdv ct : Value) (us : List Value) (hl : us.length = 2) : bindArgs (PySem.W.fnOf "read_roads" "read_roads" (defArgs s_read_roads) (defBody s_read_roads) (defScope s_read_roads) .none kV doc pm an cdv ct) ⟨us, []⟩ = pure ((["lines", "houses"] : List Str).zip us) := match us, hl with | [_, _], _ => rfl
theorem bi25 (kV doc pm : Value) (an : Option Addr) (cdv ct : Value) (us : List Value) (hl : us.length = 1) : bindArgs (PySem.W.fnOf "web_text" "web_text" (defArgs s_web_text) (defBody s_web_text) (defScope s_web_text) .none kV doc pm an cdv ct) ⟨us, []⟩ = pure ((["web"] : List Str).zip us) := match us, hl with | [_], _ => rfl
theorem bi26 (kV doc pm : Value) (an : Option Addr) (cdv ct : Value) (us : List Value) (hl : us.length = 1) : bindArgs (PySem.W.fnOf "read_web" "read_web" (defArgs s_read_web) (defBody s_read_web) (defScope s_read_web) .none kV doc pm an cdv ct) ⟨us, []⟩ = pure ((["thing"] : List Str).zip us) := match us, hl with | [_], _ => rfl
theorem bi27 (kV doc pm : Value) (an : Option Addr) (cdv ct : Value) (us : List Value) (hl : us.length = 1) : bindArgs (PySem.W.fnOf "_law_told" "_law_told" (defArgs s__law_told) (defBody s__law_told) (defScope s__law_told) .none kV doc pm an cdv ct) ⟨us, []⟩ = pure ((["_law_thing"] : List Str).zip us) := match us, hl with | [_], _ => rfl
theorem bi28 (kV doc pm : Value) (an : Option Addr) (cdv ct : Value) (us : List Value) (hl : us.length = 2) : bindArgs (PySem.W.fnOf "_law_order" "_law_order" (defArgs s__law_order) (defBody s__law_order) (defScope s__law_order) .none kV doc pm an cdv ct) ⟨us, []⟩ = pure ((["_law_deck_here", "_law_numbers"] : List Str).zip us) := match us, hl with | [_, _], _ => rfl
theorem bi29 (kV doc pm : Value) (an : Option Addr) (cdv ct : Value) (us : List Value) (hl : us.length = 2) : bindArgs (PySem.W.fnOf "_law_one" "_law_one" (defArgs s__law_one) (defBody s__law_one) (defScope s__law_one) .none kV doc pm an cdv ct) ⟨us, []⟩ = pure ((["_law_deck_here", "_law_some"] : List Str).zip us) := match us, hl with | [_, _], _ => rfl
theorem bi30 (kV doc pm : Value) (an : Option Addr) (cdv ct : Value) (us : List Value) (hl : us.length = 2) : bindArgs (PySem.W.fnOf "_law_room" "_law_room" (defArgs s__law_room) (defBody s__law_room) (defScope s__law_room) .none kV doc pm an cdv ct) ⟨us, []⟩ = pure ((["_law_deck_here", "_law_far"] : List Str).zip us) := match us, hl with | [_, _], _ => rfl
theorem bi31 (kV doc pm : Value) (an : Option Addr) (cdv ct : Value) (us : List Value) (hl : us.length = 3) : bindArgs (PySem.W.fnOf "_law_road" "_law_road" (defArgs s__law_road) (defBody s__law_road) (defScope s__law_road) .none kV doc pm an cdv ct) ⟨us, []⟩ = pure ((["_law_deck_here", "_law_houses", "_law_far"] : List Str).zip us) := match us, hl with | [_, _, _], _ => rfl
theorem bi32 (kV doc pm : Value) (an : Option Addr) (cdv ct : Value) (us : List Value) (hl : us.length = 4) : bindArgs (PySem.W.fnOf "_law_web" "_law_web" (defArgs s__law_web) (defBody s__law_web) (defScope s__law_web) .none kV doc pm an cdv ct) ⟨us, []⟩ = pure ((["_law_deck_here", "_law_houses", "_law_roads", "_law_far"] : List Str).zip us) := match us, hl with | [_, _, _, _], _ => rfl
theorem bi_NoText (kV doc pm : Value) (an : Option Addr) (cdv ct : Value) (us : List Value) (hl : us.length = 2) : bindArgs (PySem.W.fnOf "__init__" "NoText.__init__" (defArgs s_initNoText) (defBody s_initNoText) (defScope s_initNoText) .none kV doc pm an cdv ct) ⟨us, []⟩ = pure ((["self", "line"] : List Str).zip us) := match us, hl with | [_, _], _ => rfl
theorem all_mk {l : PySem.W.OpenLaw} {w : World} {K : PySem.W.Frag} {h : Heap} {mg : Str → Option Value} {fa : Addr} (X : K.In h) (G : h.Ns mainGlobals mg) (hfa : mg "law" = some (.ref fa))
    {f0 : Addr} {od0 an0 : Option Addr} {sl0 : Array (Option Value)} {oc0 kV0 dc0 pm0 cd0 ct0 : Value}
    {f1 : Addr} {od1 an1 : Option Addr} {sl1 : Array (Option Value)} {oc1 kV1 dc1 pm1 cd1 ct1 : Value}
    {f2 : Addr} {od2 an2 : Option Addr} {sl2 : Array (Option Value)} {oc2 kV2 dc2 pm2 cd2 ct2 : Value}
    {f3 : Addr} {od3 an3 : Option Addr} {sl3 : Array (Option Value)} {oc3 kV3 dc3 pm3 cd3 ct3 : Value}
    {f4 : Addr} {od4 an4 : Option Addr} {sl4 : Array (Option Value)} {oc4 kV4 dc4 pm4 cd4 ct4 : Value}
    {f5 : Addr} {od5 an5 : Option Addr} {sl5 : Array (Option Value)} {oc5 kV5 dc5 pm5 cd5 ct5 : Value}
    {f6 : Addr} {od6 an6 : Option Addr} {sl6 : Array (Option Value)} {oc6 kV6 dc6 pm6 cd6 ct6 : Value}
    {f7 : Addr} {od7 an7 : Option Addr} {sl7 : Array (Option Value)} {oc7 kV7 dc7 pm7 cd7 ct7 : Value}
    {f8 : Addr} {od8 an8 : Option Addr} {sl8 : Array (Option Value)} {oc8 kV8 dc8 pm8 cd8 ct8 : Value}
    {f9 : Addr} {od9 an9 : Option Addr} {sl9 : Array (Option Value)} {oc9 kV9 dc9 pm9 cd9 ct9 : Value}
    {f10 : Addr} {od10 an10 : Option Addr} {sl10 : Array (Option Value)} {oc10 kV10 dc10 pm10 cd10 ct10 : Value}
    {f11 : Addr} {od11 an11 : Option Addr} {sl11 : Array (Option Value)} {oc11 kV11 dc11 pm11 cd11 ct11 : Value}
    {f12 : Addr} {od12 an12 : Option Addr} {sl12 : Array (Option Value)} {oc12 kV12 dc12 pm12 cd12 ct12 : Value}
    {f13 : Addr} {od13 an13 : Option Addr} {sl13 : Array (Option Value)} {oc13 kV13 dc13 pm13 cd13 ct13 : Value}
    {f14 : Addr} {od14 an14 : Option Addr} {sl14 : Array (Option Value)} {oc14 kV14 dc14 pm14 cd14 ct14 : Value}
    {f15 : Addr} {od15 an15 : Option Addr} {sl15 : Array (Option Value)} {oc15 kV15 dc15 pm15 cd15 ct15 : Value}
    {f16 : Addr} {od16 an16 : Option Addr} {sl16 : Array (Option Value)} {oc16 kV16 dc16 pm16 cd16 ct16 : Value}
    {f17 : Addr} {od17 an17 : Option Addr} {sl17 : Array (Option Value)} {oc17 kV17 dc17 pm17 cd17 ct17 : Value}
    {f18 : Addr} {od18 an18 : Option Addr} {sl18 : Array (Option Value)} {oc18 kV18 dc18 pm18 cd18 ct18 : Value}
    {f19 : Addr} {od19 an19 : Option Addr} {sl19 : Array (Option Value)} {oc19 kV19 dc19 pm19 cd19 ct19 : Value}
    {f20 : Addr} {od20 an20 : Option Addr} {sl20 : Array (Option Value)} {oc20 kV20 dc20 pm20 cd20 ct20 : Value}
    {f21 : Addr} {od21 an21 : Option Addr} {sl21 : Array (Option Value)} {oc21 kV21 dc21 pm21 cd21 ct21 : Value}
    {f22 : Addr} {od22 an22 : Option Addr} {sl22 : Array (Option Value)} {oc22 kV22 dc22 pm22 cd22 ct22 : Value}
    {f23 : Addr} {od23 an23 : Option Addr} {sl23 : Array (Option Value)} {oc23 kV23 dc23 pm23 cd23 ct23 : Value}
    {f24 : Addr} {od24 an24 : Option Addr} {sl24 : Array (Option Value)} {oc24 kV24 dc24 pm24 cd24 ct24 : Value}
    {f25 : Addr} {od25 an25 : Option Addr} {sl25 : Array (Option Value)} {oc25 kV25 dc25 pm25 cd25 ct25 : Value}
    {f26 : Addr} {od26 an26 : Option Addr} {sl26 : Array (Option Value)} {oc26 kV26 dc26 pm26 cd26 ct26 : Value}
    {f27 : Addr} {od27 an27 : Option Addr} {sl27 : Array (Option Value)} {oc27 kV27 dc27 pm27 cd27 ct27 : Value}
    {f28 : Addr} {od28 an28 : Option Addr} {sl28 : Array (Option Value)} {oc28 kV28 dc28 pm28 cd28 ct28 : Value}
    {f29 : Addr} {od29 an29 : Option Addr} {sl29 : Array (Option Value)} {oc29 kV29 dc29 pm29 cd29 ct29 : Value}
    {f30 : Addr} {od30 an30 : Option Addr} {sl30 : Array (Option Value)} {oc30 kV30 dc30 pm30 cd30 ct30 : Value}
    {f31 : Addr} {od31 an31 : Option Addr} {sl31 : Array (Option Value)} {oc31 kV31 dc31 pm31 cd31 ct31 : Value}
    {f32 : Addr} {od32 an32 : Option Addr} {sl32 : Array (Option Value)} {oc32 kV32 dc32 pm32 cd32 ct32 : Value}
    {f33 : Addr} {od33 an33 : Option Addr} {sl33 : Array (Option Value)} {oc33 kV33 dc33 pm33 cd33 ct33 : Value}
    {t_FIGURES : Tok}
    {t_GREAT : Tok}
    {t_HOUSES : Tok}
    {t_ROADS : Tok}
    {C_WebError : Addr}
    {C_BadWeb : Addr}
    {C_BadOrder : Addr}
    {C_Broken : Addr}
    {C_NoStream : Addr}
    {C_NoText : Addr}
    {o_NoText : Obj} {I_NoText : Addr} {odI_NoText anI_NoText : Option Addr} {slI_NoText : Array (Option Value)} {ocI_NoText kVI_NoText dcI_NoText pmI_NoText cdI_NoText ctI_NoText : Value}
    (a0 : PySem.W.nsIn K mainGlobals "_law_deck" = some (some (.ref f0)))
    (l0 : K.lookup f0 = some ⟨oc0, od0, .func (PySem.W.fnOf "_law_deck" "_law_deck" (defArgs s__law_deck) (defBody s__law_deck) (defScope s__law_deck) .none kV0 dc0 pm0 an0 cd0 ct0), sl0⟩)
    (c0 : PySem.W.codeIn K cd0 "_law_deck" = true)
    (k0 : PySem.W.keepIn K (.ref f0) = true)
    (a1 : PySem.W.nsIn K mainGlobals "_law_next" = some (some (.ref f1)))
    (l1 : K.lookup f1 = some ⟨oc1, od1, .func (PySem.W.fnOf "_law_next" "_law_next" (defArgs s__law_next) (defBody s__law_next) (defScope s__law_next) .none kV1 dc1 pm1 an1 cd1 ct1), sl1⟩)
    (c1 : PySem.W.codeIn K cd1 "_law_next" = true)
    (k1 : PySem.W.keepIn K (.ref f1) = true)
    (a2 : PySem.W.nsIn K mainGlobals "_law_sign" = some (some (.ref f2)))
    (l2 : K.lookup f2 = some ⟨oc2, od2, .func (PySem.W.fnOf "_law_sign" "_law_sign" (defArgs s__law_sign) (defBody s__law_sign) (defScope s__law_sign) .none kV2 dc2 pm2 an2 cd2 ct2), sl2⟩)
    (c2 : PySem.W.codeIn K cd2 "_law_sign" = true)
    (k2 : PySem.W.keepIn K (.ref f2) = true)
    (a3 : PySem.W.nsIn K mainGlobals "_law_spoilt" = some (some (.ref f3)))
    (l3 : K.lookup f3 = some ⟨oc3, od3, .func (PySem.W.fnOf "_law_spoilt" "_law_spoilt" (defArgs s__law_spoilt) (defBody s__law_spoilt) (defScope s__law_spoilt) .none kV3 dc3 pm3 an3 cd3 ct3), sl3⟩)
    (c3 : PySem.W.codeIn K cd3 "_law_spoilt" = true)
    (k3 : PySem.W.keepIn K (.ref f3) = true)
    (a4 : PySem.W.nsIn K mainGlobals "_law_number_in" = some (some (.ref f4)))
    (l4 : K.lookup f4 = some ⟨oc4, od4, .func (PySem.W.fnOf "_law_number_in" "_law_number_in" (defArgs s__law_number_in) (defBody s__law_number_in) (defScope s__law_number_in) .none kV4 dc4 pm4 an4 cd4 ct4), sl4⟩)
    (c4 : PySem.W.codeIn K cd4 "_law_number_in" = true)
    (k4 : PySem.W.keepIn K (.ref f4) = true)
    (a5 : PySem.W.nsIn K mainGlobals "_law_end_in" = some (some (.ref f5)))
    (l5 : K.lookup f5 = some ⟨oc5, od5, .func (PySem.W.fnOf "_law_end_in" "_law_end_in" (defArgs s__law_end_in) (defBody s__law_end_in) (defScope s__law_end_in) .none kV5 dc5 pm5 an5 cd5 ct5), sl5⟩)
    (c5 : PySem.W.codeIn K cd5 "_law_end_in" = true)
    (k5 : PySem.W.keepIn K (.ref f5) = true)
    (a6 : PySem.W.nsIn K mainGlobals "_law_line_right" = some (some (.ref f6)))
    (l6 : K.lookup f6 = some ⟨oc6, od6, .func (PySem.W.fnOf "_law_line_right" "_law_line_right" (defArgs s__law_line_right) (defBody s__law_line_right) (defScope s__law_line_right) .none kV6 dc6 pm6 an6 cd6 ct6), sl6⟩)
    (c6 : PySem.W.codeIn K cd6 "_law_line_right" = true)
    (k6 : PySem.W.keepIn K (.ref f6) = true)
    (a7 : PySem.W.nsIn K mainGlobals "_law_text_fault" = some (some (.ref f7)))
    (l7 : K.lookup f7 = some ⟨oc7, od7, .func (PySem.W.fnOf "_law_text_fault" "_law_text_fault" (defArgs s__law_text_fault) (defBody s__law_text_fault) (defScope s__law_text_fault) .none kV7 dc7 pm7 an7 cd7 ct7), sl7⟩)
    (c7 : PySem.W.codeIn K cd7 "_law_text_fault" = true)
    (k7 : PySem.W.keepIn K (.ref f7) = true)
    (a8 : PySem.W.nsIn K mainGlobals "check_text" = some (some (.ref f8)))
    (l8 : K.lookup f8 = some ⟨oc8, od8, .func (PySem.W.fnOf "check_text" "check_text" (defArgs s_check_text) (defBody s_check_text) (defScope s_check_text) .none kV8 dc8 pm8 an8 cd8 ct8), sl8⟩)
    (c8 : PySem.W.codeIn K cd8 "check_text" = true)
    (k8 : PySem.W.keepIn K (.ref f8) = true)
    (a9 : PySem.W.nsIn K mainGlobals "houses_line" = some (some (.ref f9)))
    (l9 : K.lookup f9 = some ⟨oc9, od9, .func (PySem.W.fnOf "houses_line" "houses_line" (defArgs s_houses_line) (defBody s_houses_line) (defScope s_houses_line) .none kV9 dc9 pm9 an9 cd9 ct9), sl9⟩)
    (c9 : PySem.W.codeIn K cd9 "houses_line" = true)
    (k9 : PySem.W.keepIn K (.ref f9) = true)
    (a10 : PySem.W.nsIn K mainGlobals "read_houses" = some (some (.ref f10)))
    (l10 : K.lookup f10 = some ⟨oc10, od10, .func (PySem.W.fnOf "read_houses" "read_houses" (defArgs s_read_houses) (defBody s_read_houses) (defScope s_read_houses) .none kV10 dc10 pm10 an10 cd10 ct10), sl10⟩)
    (c10 : PySem.W.codeIn K cd10 "read_houses" = true)
    (k10 : PySem.W.keepIn K (.ref f10) = true)
    (a11 : PySem.W.nsIn K mainGlobals "is_number" = some (some (.ref f11)))
    (l11 : K.lookup f11 = some ⟨oc11, od11, .func (PySem.W.fnOf "is_number" "is_number" (defArgs s_is_number) (defBody s_is_number) (defScope s_is_number) .none kV11 dc11 pm11 an11 cd11 ct11), sl11⟩)
    (c11 : PySem.W.codeIn K cd11 "is_number" = true)
    (k11 : PySem.W.keepIn K (.ref f11) = true)
    (a12 : PySem.W.nsIn K mainGlobals "is_order" = some (some (.ref f12)))
    (l12 : K.lookup f12 = some ⟨oc12, od12, .func (PySem.W.fnOf "is_order" "is_order" (defArgs s_is_order) (defBody s_is_order) (defScope s_is_order) .none kV12 dc12 pm12 an12 cd12 ct12), sl12⟩)
    (c12 : PySem.W.codeIn K cd12 "is_order" = true)
    (k12 : PySem.W.keepIn K (.ref f12) = true)
    (a13 : PySem.W.nsIn K mainGlobals "order_line" = some (some (.ref f13)))
    (l13 : K.lookup f13 = some ⟨oc13, od13, .func (PySem.W.fnOf "order_line" "order_line" (defArgs s_order_line) (defBody s_order_line) (defScope s_order_line) .none kV13 dc13 pm13 an13 cd13 ct13), sl13⟩)
    (c13 : PySem.W.codeIn K cd13 "order_line" = true)
    (k13 : PySem.W.keepIn K (.ref f13) = true)
    (a14 : PySem.W.nsIn K mainGlobals "number_in" = some (some (.ref f14)))
    (l14 : K.lookup f14 = some ⟨oc14, od14, .func (PySem.W.fnOf "number_in" "number_in" (defArgs s_number_in) (defBody s_number_in) (defScope s_number_in) .none kV14 dc14 pm14 an14 cd14 ct14), sl14⟩)
    (c14 : PySem.W.codeIn K cd14 "number_in" = true)
    (k14 : PySem.W.keepIn K (.ref f14) = true)
    (a15 : PySem.W.nsIn K mainGlobals "roads_in" = some (some (.ref f15)))
    (l15 : K.lookup f15 = some ⟨oc15, od15, .func (PySem.W.fnOf "roads_in" "roads_in" (defArgs s_roads_in) (defBody s_roads_in) (defScope s_roads_in) .none kV15 dc15 pm15 an15 cd15 ct15), sl15⟩)
    (c15 : PySem.W.codeIn K cd15 "roads_in" = true)
    (k15 : PySem.W.keepIn K (.ref f15) = true)
    (a16 : PySem.W.nsIn K mainGlobals "read_order" = some (some (.ref f16)))
    (l16 : K.lookup f16 = some ⟨oc16, od16, .func (PySem.W.fnOf "read_order" "read_order" (defArgs s_read_order) (defBody s_read_order) (defScope s_read_order) .none kV16 dc16 pm16 an16 cd16 ct16), sl16⟩)
    (c16 : PySem.W.codeIn K cd16 "read_order" = true)
    (k16 : PySem.W.keepIn K (.ref f16) = true)
    (a17 : PySem.W.nsIn K mainGlobals "read_orders" = some (some (.ref f17)))
    (l17 : K.lookup f17 = some ⟨oc17, od17, .func (PySem.W.fnOf "read_orders" "read_orders" (defArgs s_read_orders) (defBody s_read_orders) (defScope s_read_orders) .none kV17 dc17 pm17 an17 cd17 ct17), sl17⟩)
    (c17 : PySem.W.codeIn K cd17 "read_orders" = true)
    (k17 : PySem.W.keepIn K (.ref f17) = true)
    (a18 : PySem.W.nsIn K mainGlobals "is_number_to" = some (some (.ref f18)))
    (l18 : K.lookup f18 = some ⟨oc18, od18, .func (PySem.W.fnOf "is_number_to" "is_number_to" (defArgs s_is_number_to) (defBody s_is_number_to) (defScope s_is_number_to) .none kV18 dc18 pm18 an18 cd18 ct18), sl18⟩)
    (c18 : PySem.W.codeIn K cd18 "is_number_to" = true)
    (k18 : PySem.W.keepIn K (.ref f18) = true)
    (a19 : PySem.W.nsIn K mainGlobals "is_end" = some (some (.ref f19)))
    (l19 : K.lookup f19 = some ⟨oc19, od19, .func (PySem.W.fnOf "is_end" "is_end" (defArgs s_is_end) (defBody s_is_end) (defScope s_is_end) .none kV19 dc19 pm19 an19 cd19 ct19), sl19⟩)
    (c19 : PySem.W.codeIn K cd19 "is_end" = true)
    (k19 : PySem.W.keepIn K (.ref f19) = true)
    (a20 : PySem.W.nsIn K mainGlobals "is_tuple_of" = some (some (.ref f20)))
    (l20 : K.lookup f20 = some ⟨oc20, od20, .func (PySem.W.fnOf "is_tuple_of" "is_tuple_of" (defArgs s_is_tuple_of) (defBody s_is_tuple_of) (defScope s_is_tuple_of) .none kV20 dc20 pm20 an20 cd20 ct20), sl20⟩)
    (c20 : PySem.W.codeIn K cd20 "is_tuple_of" = true)
    (k20 : PySem.W.keepIn K (.ref f20) = true)
    (a21 : PySem.W.nsIn K mainGlobals "road_fault" = some (some (.ref f21)))
    (l21 : K.lookup f21 = some ⟨oc21, od21, .func (PySem.W.fnOf "road_fault" "road_fault" (defArgs s_road_fault) (defBody s_road_fault) (defScope s_road_fault) .none kV21 dc21 pm21 an21 cd21 ct21), sl21⟩)
    (c21 : PySem.W.codeIn K cd21 "road_fault" = true)
    (k21 : PySem.W.keepIn K (.ref f21) = true)
    (a22 : PySem.W.nsIn K mainGlobals "end_word" = some (some (.ref f22)))
    (l22 : K.lookup f22 = some ⟨oc22, od22, .func (PySem.W.fnOf "end_word" "end_word" (defArgs s_end_word) (defBody s_end_word) (defScope s_end_word) .none kV22 dc22 pm22 an22 cd22 ct22), sl22⟩)
    (c22 : PySem.W.codeIn K cd22 "end_word" = true)
    (k22 : PySem.W.keepIn K (.ref f22) = true)
    (a23 : PySem.W.nsIn K mainGlobals "road_line" = some (some (.ref f23)))
    (l23 : K.lookup f23 = some ⟨oc23, od23, .func (PySem.W.fnOf "road_line" "road_line" (defArgs s_road_line) (defBody s_road_line) (defScope s_road_line) .none kV23 dc23 pm23 an23 cd23 ct23), sl23⟩)
    (c23 : PySem.W.codeIn K cd23 "road_line" = true)
    (k23 : PySem.W.keepIn K (.ref f23) = true)
    (a24 : PySem.W.nsIn K mainGlobals "read_roads" = some (some (.ref f24)))
    (l24 : K.lookup f24 = some ⟨oc24, od24, .func (PySem.W.fnOf "read_roads" "read_roads" (defArgs s_read_roads) (defBody s_read_roads) (defScope s_read_roads) .none kV24 dc24 pm24 an24 cd24 ct24), sl24⟩)
    (c24 : PySem.W.codeIn K cd24 "read_roads" = true)
    (k24 : PySem.W.keepIn K (.ref f24) = true)
    (a25 : PySem.W.nsIn K mainGlobals "web_text" = some (some (.ref f25)))
    (l25 : K.lookup f25 = some ⟨oc25, od25, .func (PySem.W.fnOf "web_text" "web_text" (defArgs s_web_text) (defBody s_web_text) (defScope s_web_text) .none kV25 dc25 pm25 an25 cd25 ct25), sl25⟩)
    (c25 : PySem.W.codeIn K cd25 "web_text" = true)
    (k25 : PySem.W.keepIn K (.ref f25) = true)
    (a26 : PySem.W.nsIn K mainGlobals "read_web" = some (some (.ref f26)))
    (l26 : K.lookup f26 = some ⟨oc26, od26, .func (PySem.W.fnOf "read_web" "read_web" (defArgs s_read_web) (defBody s_read_web) (defScope s_read_web) .none kV26 dc26 pm26 an26 cd26 ct26), sl26⟩)
    (c26 : PySem.W.codeIn K cd26 "read_web" = true)
    (k26 : PySem.W.keepIn K (.ref f26) = true)
    (a27 : PySem.W.nsIn K mainGlobals "_law_told" = some (some (.ref f27)))
    (l27 : K.lookup f27 = some ⟨oc27, od27, .func (PySem.W.fnOf "_law_told" "_law_told" (defArgs s__law_told) (defBody s__law_told) (defScope s__law_told) .none kV27 dc27 pm27 an27 cd27 ct27), sl27⟩)
    (c27 : PySem.W.codeIn K cd27 "_law_told" = true)
    (k27 : PySem.W.keepIn K (.ref f27) = true)
    (a28 : PySem.W.nsIn K mainGlobals "_law_order" = some (some (.ref f28)))
    (l28 : K.lookup f28 = some ⟨oc28, od28, .func (PySem.W.fnOf "_law_order" "_law_order" (defArgs s__law_order) (defBody s__law_order) (defScope s__law_order) .none kV28 dc28 pm28 an28 cd28 ct28), sl28⟩)
    (c28 : PySem.W.codeIn K cd28 "_law_order" = true)
    (k28 : PySem.W.keepIn K (.ref f28) = true)
    (a29 : PySem.W.nsIn K mainGlobals "_law_one" = some (some (.ref f29)))
    (l29 : K.lookup f29 = some ⟨oc29, od29, .func (PySem.W.fnOf "_law_one" "_law_one" (defArgs s__law_one) (defBody s__law_one) (defScope s__law_one) .none kV29 dc29 pm29 an29 cd29 ct29), sl29⟩)
    (c29 : PySem.W.codeIn K cd29 "_law_one" = true)
    (k29 : PySem.W.keepIn K (.ref f29) = true)
    (a30 : PySem.W.nsIn K mainGlobals "_law_room" = some (some (.ref f30)))
    (l30 : K.lookup f30 = some ⟨oc30, od30, .func (PySem.W.fnOf "_law_room" "_law_room" (defArgs s__law_room) (defBody s__law_room) (defScope s__law_room) .none kV30 dc30 pm30 an30 cd30 ct30), sl30⟩)
    (c30 : PySem.W.codeIn K cd30 "_law_room" = true)
    (k30 : PySem.W.keepIn K (.ref f30) = true)
    (a31 : PySem.W.nsIn K mainGlobals "_law_road" = some (some (.ref f31)))
    (l31 : K.lookup f31 = some ⟨oc31, od31, .func (PySem.W.fnOf "_law_road" "_law_road" (defArgs s__law_road) (defBody s__law_road) (defScope s__law_road) .none kV31 dc31 pm31 an31 cd31 ct31), sl31⟩)
    (c31 : PySem.W.codeIn K cd31 "_law_road" = true)
    (k31 : PySem.W.keepIn K (.ref f31) = true)
    (a32 : PySem.W.nsIn K mainGlobals "_law_web" = some (some (.ref f32)))
    (l32 : K.lookup f32 = some ⟨oc32, od32, .func (PySem.W.fnOf "_law_web" "_law_web" (defArgs s__law_web) (defBody s__law_web) (defScope s__law_web) .none kV32 dc32 pm32 an32 cd32 ct32), sl32⟩)
    (c32 : PySem.W.codeIn K cd32 "_law_web" = true)
    (k32 : PySem.W.keepIn K (.ref f32) = true)
    (a33 : PySem.W.nsIn K mainGlobals "law" = some (some (.ref f33)))
    (l33 : K.lookup f33 = some ⟨oc33, od33, .func (PySem.W.fnOf "law" "law" (defArgs s_law) (defBody s_law) (defScope s_law) .none kV33 dc33 pm33 an33 cd33 ct33), sl33⟩)
    (c33 : PySem.W.codeIn K cd33 "law" = true)
    (k33 : PySem.W.keepIn K (.ref f33) = true)
    (v_FIGURES : PySem.W.nsIn K mainGlobals "FIGURES" = some (some (.int 13 t_FIGURES)))
    (v_GREAT : PySem.W.nsIn K mainGlobals "GREAT" = some (some (.int 1000000000000 t_GREAT)))
    (v_HOUSES : PySem.W.nsIn K mainGlobals "HOUSES" = some (some (.int 8 t_HOUSES)))
    (v_ROADS : PySem.W.nsIn K mainGlobals "ROADS" = some (some (.int 20 t_ROADS)))
    (z_abs : PySem.W.nsIn K mainGlobals "abs" = some none)
    (z_all : PySem.W.nsIn K mainGlobals "all" = some none)
    (z_bool : PySem.W.nsIn K mainGlobals "bool" = some none)
    (z_enumerate : PySem.W.nsIn K mainGlobals "enumerate" = some none)
    (z_int : PySem.W.nsIn K mainGlobals "int" = some none)
    (z_isinstance : PySem.W.nsIn K mainGlobals "isinstance" = some none)
    (z_len : PySem.W.nsIn K mainGlobals "len" = some none)
    (z_range : PySem.W.nsIn K mainGlobals "range" = some none)
    (z_repr : PySem.W.nsIn K mainGlobals "repr" = some none)
    (z_sorted : PySem.W.nsIn K mainGlobals "sorted" = some none)
    (z_str : PySem.W.nsIn K mainGlobals "str" = some none)
    (z_tuple : PySem.W.nsIn K mainGlobals "tuple" = some none)
    (y_WebError : PySem.W.nsIn K mainGlobals "WebError" = some (some (.ref C_WebError)))
    (y_BadWeb : PySem.W.nsIn K mainGlobals "BadWeb" = some (some (.ref C_BadWeb)))
    (y_BadOrder : PySem.W.nsIn K mainGlobals "BadOrder" = some (some (.ref C_BadOrder)))
    (y_Broken : PySem.W.nsIn K mainGlobals "Broken" = some (some (.ref C_Broken)))
    (y_NoStream : PySem.W.nsIn K mainGlobals "NoStream" = some (some (.ref C_NoStream)))
    (y_NoText : PySem.W.nsIn K mainGlobals "NoText" = some (some (.ref C_NoText)))
    (yt_BadOrder : PySem.W.typeIn K (.ref C_BadOrder) = some (.type "type"))
    (yh_BadOrder : PySem.W.hasDictIn K C_BadOrder = true)
    (yt_BadWeb : PySem.W.typeIn K (.ref C_BadWeb) = some (.type "type"))
    (yh_BadWeb : PySem.W.hasDictIn K C_BadWeb = true)
    (yt_Broken : PySem.W.typeIn K (.ref C_Broken) = some (.type "type"))
    (yh_Broken : PySem.W.hasDictIn K C_Broken = true)
    (yt_NoStream : PySem.W.typeIn K (.ref C_NoStream) = some (.type "type"))
    (yh_NoStream : PySem.W.hasDictIn K C_NoStream = true)
    (yt_NoText : PySem.W.typeIn K (.ref C_NoText) = some (.type "type"))
    (yh_NoText : PySem.W.hasDictIn K C_NoText = true)
    (yt_WebError : PySem.W.typeIn K (.ref C_WebError) = some (.type "type"))
    (yh_WebError : PySem.W.hasDictIn K C_WebError = true)
    (yb_WebError : PySem.W.subIn K (.ref C_WebError) (.type "BaseException") = some true)
    (ye3 : PySem.W.specialIn K (.builtin "object.__class__") "__get__" = some (some (.builtin "getset_descriptor.__get__")))
    (ye4 : PySem.W.takesIn K (.builtin "object.__class__") = some true)
    (yb_NoText : PySem.W.subIn K (.ref C_NoText) (.type "BaseException") = some true)
    (ye0_NoText : PySem.W.findIn K (.ref C_NoText) "__getattribute__" = some (some (.builtin "BaseException.__getattribute__")))
    (ye1_NoText : PySem.W.findIn K (.ref C_NoText) "__getattr__" = some none)
    (ye2_NoText : PySem.W.findIn K (.ref C_NoText) "__class__" = some (some (.builtin "object.__class__")))
    (ye5_NoText : PySem.W.mroIn K C_NoText (.type "object") = some true)
    (s_NoText_BadOrder : PySem.W.subIn K (.ref C_NoText) (.ref C_BadOrder) = some false)
    (s_NoText_BadWeb : PySem.W.subIn K (.ref C_NoText) (.ref C_BadWeb) = some false)
    (s_NoText_Broken : PySem.W.subIn K (.ref C_NoText) (.ref C_Broken) = some false)
    (s_NoText_NoStream : PySem.W.subIn K (.ref C_NoText) (.ref C_NoStream) = some false)
    (s_NoText_NoText : PySem.W.subIn K (.ref C_NoText) (.ref C_NoText) = some true)
    (s_NoText_WebError : PySem.W.subIn K (.ref C_NoText) (.ref C_WebError) = some true)
    (no_NoText_line : PySem.W.findIn K (.ref C_NoText) "line" = some none)
    (yk_NoText : PySem.W.keepIn K (.ref C_NoText) = true)
    (vl_NoText : K.lookup C_NoText = some o_NoText)
    (vo_NoText : oexO C_NoText o_NoText = true)
    (vs_NoText : PySem.W.findIn K (.ref C_NoText) "__setattr__" = some (some (.builtin "object.__setattr__")))
    (vi_NoText : PySem.W.findIn K (.ref C_NoText) "__init__" = some (some (.ref I_NoText)))
    (vt_NoText : PySem.W.typeIn K (.ref I_NoText) = some (.type "function"))
    (vf_NoText : K.lookup I_NoText = some ⟨ocI_NoText, odI_NoText, .func (PySem.W.fnOf "__init__" "NoText.__init__" (defArgs s_initNoText) (defBody s_initNoText) (defScope s_initNoText) .none kVI_NoText dcI_NoText pmI_NoText anI_NoText cdI_NoText ctI_NoText), slI_NoText⟩)
    (vc_NoText : PySem.W.codeIn K cdI_NoText "NoText.__init__" = true) :
    ∃ (kk : KK) (fd : FuncData), kk.fr = K ∧ (∀ (s : Shared) (v : Value), BindsTo s fd ⟨[v], []⟩ [("_law_script", v)]) ∧ ∀ base : Heap, K.In base → base.Ns mainGlobals mg → FnG l.prog w K mg base 8 fa fd ["_law_script"] (@spF kk F_law_z202) := by
  have e := hfa.symm.trans (PySem.W.mg_of X G a33)
  cases e
  letI kk : KK := ⟨K, fun n => ([(16, C_NoText)] : List (Nat × Addr)).lookup n, fun n => ([] : List (Nat × Addr)).lookup n, 0⟩
  have B : Bm mg := ⟨PySem.W.mg_none_of X G z_abs, PySem.W.mg_none_of X G z_all, PySem.W.mg_none_of X G z_bool, PySem.W.mg_none_of X G z_enumerate, PySem.W.mg_none_of X G z_int, PySem.W.mg_none_of X G z_isinstance, PySem.W.mg_none_of X G z_len, PySem.W.mg_none_of X G z_range, PySem.W.mg_none_of X G z_repr, PySem.W.mg_none_of X G z_sorted, PySem.W.mg_none_of X G z_str, PySem.W.mg_none_of X G z_tuple⟩
  have at_ : ∀ {Q : Nat → Addr → Prop}, AllL Q [(16, C_NoText)] → ∀ n C, kk.cl n = some C → Q n C := fun h n C e => h.at n C e
  have Z : HF mg w (fun n => (([(0, C_WebError), (1, C_BadWeb), (5, C_BadOrder), (11, C_Broken), (15, C_NoStream), (16, C_NoText)] : List (Nat × Addr)).lookup n).getD 0) 0 := ⟨AllN.at ⟨rfl, trivial⟩,
    at_ ⟨⟨ye0_NoText, ye1_NoText, yb_NoText, yh_NoText, ye2_NoText, ye3, ye4, ye5_NoText⟩, trivial⟩,
    PySem.W.mg_of X G y_BadOrder,
    PySem.W.mg_of X G y_BadWeb,
    PySem.W.mg_of X G y_Broken,
    PySem.W.mg_of X G y_NoStream,
    PySem.W.mg_of X G y_NoText,
    PySem.W.mg_of X G y_WebError,
    (fun n C b h => (at_ ⟨(itb rfl (kit_no yh_BadOrder yt_BadOrder s_NoText_BadOrder s_NoText_NoText)), trivial⟩ : ∀ n C, kk.cl n = some C → ∀ b, it_k78_BadOrder n = some b → PySem.W.kitOne K (.ref C) (.ref C_BadOrder) = some b) n C h b),
    (fun n C b h => (at_ ⟨(itb rfl (kit_no yh_BadWeb yt_BadWeb s_NoText_BadWeb s_NoText_NoText)), trivial⟩ : ∀ n C, kk.cl n = some C → ∀ b, it_k78_BadWeb n = some b → PySem.W.kitOne K (.ref C) (.ref C_BadWeb) = some b) n C h b),
    (fun n C b h => (at_ ⟨(itb rfl (kit_no yh_Broken yt_Broken s_NoText_Broken s_NoText_NoText)), trivial⟩ : ∀ n C, kk.cl n = some C → ∀ b, it_k78_Broken n = some b → PySem.W.kitOne K (.ref C) (.ref C_Broken) = some b) n C h b),
    (fun n C b h => (at_ ⟨(itb rfl (kit_no yh_NoStream yt_NoStream s_NoText_NoStream s_NoText_NoText)), trivial⟩ : ∀ n C, kk.cl n = some C → ∀ b, it_k78_NoStream n = some b → PySem.W.kitOne K (.ref C) (.ref C_NoStream) = some b) n C h b),
    (fun n C b h => (at_ ⟨(itb rfl (kit_yes yh_NoText yt_NoText s_NoText_NoText)), trivial⟩ : ∀ n C, kk.cl n = some C → ∀ b, it_k78_NoText n = some b → PySem.W.kitOne K (.ref C) (.ref C_NoText) = some b) n C h b),
    at_ ⟨(fun _ => ⟨⟨ye0_NoText, ye1_NoText, yb_NoText, yh_NoText⟩, no_NoText_line⟩), trivial⟩,
    (fun n C b h => (at_ ⟨(itb rfl (PySem.W.exm_ref yb_WebError yh_WebError yt_WebError s_NoText_WebError)), trivial⟩ : ∀ n C, kk.cl n = some C → ∀ b, em_k78_WebError n = some b → PySem.W.exmOne K (.ref C) (.ref C_WebError) = some b) n C h b)⟩
  have D0 : Dfn K mg "_law_deck" s__law_deck ["_law_script"] := dfn_mk X G a0 l0 c0 k0 bi0
  have D1 : Dfn K mg "_law_next" s__law_next ["_law_deck_here", "_law_many"] := dfn_mk X G a1 l1 c1 k1 bi1
  have D2 : Dfn K mg "_law_sign" s__law_sign ["_law_deck_here"] := dfn_mk X G a2 l2 c2 k2 bi2
  have D3 : Dfn K mg "_law_spoilt" s__law_spoilt ["_law_deck_here", "_law_text"] := dfn_mk X G a3 l3 c3 k3 bi3
  have D4 : Dfn K mg "_law_number_in" s__law_number_in ["_law_word", "_law_most"] := dfn_mk X G a4 l4 c4 k4 bi4
  have D5 : Dfn K mg "_law_end_in" s__law_end_in ["_law_word", "_law_houses"] := dfn_mk X G a5 l5 c5 k5 bi5
  have D6 : Dfn K mg "_law_line_right" s__law_line_right ["_law_line", "_law_houses", "_law_roads", "_law_orders"] := dfn_mk X G a6 l6 c6 k6 bi6
  have D7 : Dfn K mg "_law_text_fault" s__law_text_fault ["_law_thing"] := dfn_mk X G a7 l7 c7 k7 bi7
  have D8 : Dfn K mg "check_text" s_check_text ["thing"] := dfn_mk X G a8 l8 c8 k8 bi8
  have D9 : Dfn K mg "houses_line" s_houses_line ["houses"] := dfn_mk X G a9 l9 c9 k9 bi9
  have D10 : Dfn K mg "read_houses" s_read_houses ["lines"] := dfn_mk X G a10 l10 c10 k10 bi10
  have D11 : Dfn K mg "is_number" s_is_number ["thing"] := dfn_mk X G a11 l11 c11 k11 bi11
  have D12 : Dfn K mg "is_order" s_is_order ["thing", "numbers"] := dfn_mk X G a12 l12 c12 k12 bi12
  have D13 : Dfn K mg "order_line" s_order_line ["word", "order"] := dfn_mk X G a13 l13 c13 k13 bi13
  have D14 : Dfn K mg "number_in" s_number_in ["word"] := dfn_mk X G a14 l14 c14 k14 bi14
  have D15 : Dfn K mg "roads_in" s_roads_in ["word"] := dfn_mk X G a15 l15 c15 k15 bi15
  have D16 : Dfn K mg "read_order" s_read_order ["lines", "at", "word", "roads"] := dfn_mk X G a16 l16 c16 k16 bi16
  have D17 : Dfn K mg "read_orders" s_read_orders ["lines", "first", "word", "ends", "houses"] := dfn_mk X G a17 l17 c17 k17 bi17
  have D18 : Dfn K mg "is_number_to" s_is_number_to ["thing", "most"] := dfn_mk X G a18 l18 c18 k18 bi18
  have D19 : Dfn K mg "is_end" s_is_end ["thing", "houses"] := dfn_mk X G a19 l19 c19 k19 bi19
  have D20 : Dfn K mg "is_tuple_of" s_is_tuple_of ["thing", "least", "most"] := dfn_mk X G a20 l20 c20 k20 bi20
  have D21 : Dfn K mg "road_fault" s_road_fault ["number", "road", "houses"] := dfn_mk X G a21 l21 c21 k21 bi21
  have D22 : Dfn K mg "end_word" s_end_word ["end"] := dfn_mk X G a22 l22 c22 k22 bi22
  have D23 : Dfn K mg "road_line" s_road_line ["road"] := dfn_mk X G a23 l23 c23 k23 bi23
  have D24 : Dfn K mg "read_roads" s_read_roads ["lines", "houses"] := dfn_mk X G a24 l24 c24 k24 bi24
  have D25 : Dfn K mg "web_text" s_web_text ["web"] := dfn_mk X G a25 l25 c25 k25 bi25
  have D26 : Dfn K mg "read_web" s_read_web ["thing"] := dfn_mk X G a26 l26 c26 k26 bi26
  have D27 : Dfn K mg "_law_told" s__law_told ["_law_thing"] := dfn_mk X G a27 l27 c27 k27 bi27
  have D28 : Dfn K mg "_law_order" s__law_order ["_law_deck_here", "_law_numbers"] := dfn_mk X G a28 l28 c28 k28 bi28
  have D29 : Dfn K mg "_law_one" s__law_one ["_law_deck_here", "_law_some"] := dfn_mk X G a29 l29 c29 k29 bi29
  have D30 : Dfn K mg "_law_room" s__law_room ["_law_deck_here", "_law_far"] := dfn_mk X G a30 l30 c30 k30 bi30
  have D31 : Dfn K mg "_law_road" s__law_road ["_law_deck_here", "_law_houses", "_law_far"] := dfn_mk X G a31 l31 c31 k31 bi31
  have D32 : Dfn K mg "_law_web" s__law_web ["_law_deck_here", "_law_houses", "_law_roads", "_law_far"] := dfn_mk X G a32 l32 c32 k32 bi32
  refine ⟨kk, PySem.W.fnOf "law" "law" (defArgs s_law) (defBody s_law) (defScope s_law) .none kV33 dc33 pm33 an33 cd33 ct33, rfl, fun s v => .of_eq rfl, fun base _ _ => ?_⟩
  have V : HR l.prog w mg base (fun n => (([(0, C_WebError), (1, C_BadWeb), (5, C_BadOrder), (11, C_Broken), (15, C_NoStream), (16, C_NoText)] : List (Nat × Addr)).lookup n).getD 0) := ⟨init_ok (st := s_initNoText) (PySem.W.mg_of X G y_NoText) vl_NoText vo_NoText vs_NoText yb_NoText yt_NoText yk_NoText vi_NoText vt_NoText no_NoText_line vf_NoText vc_NoText fnScope_NoText bi_NoText (fun A outer s H E => pss_one (ps_ost (pv 0) (pv 1)))⟩
  have C__law_deck := c__law_deck (P := l.prog) (w := w) (base := base) D0 B 
  have C__law_next := c__law_next (P := l.prog) (w := w) (base := base) D1 B 
  have C__law_sign := c__law_sign (P := l.prog) (w := w) (base := base) D2 B C__law_next
  have C__law_spoilt := c__law_spoilt (P := l.prog) (w := w) (base := base) D3 B C__law_next C__law_sign
  have C__law_number_in := c__law_number_in (P := l.prog) (w := w) (base := base) D4 B 
  have C__law_end_in := c__law_end_in (P := l.prog) (w := w) (base := base) D5 B C__law_number_in
  have C__law_line_right := c__law_line_right (P := l.prog) (w := w) (base := base) D6 B C__law_end_in C__law_number_in
  have C__law_text_fault := c__law_text_fault (P := l.prog) (w := w) (base := base) D7 B C__law_line_right
  have C_check_text := c_check_text (P := l.prog) (w := w) (base := base) (cA := (fun n => (([(0, C_WebError), (1, C_BadWeb), (5, C_BadOrder), (11, C_Broken), (15, C_NoStream), (16, C_NoText)] : List (Nat × Addr)).lookup n).getD 0)) (dA := 0) D8 B Z V
  have C_houses_line := c_houses_line (P := l.prog) (w := w) (base := base) D9 B 
  have C_read_houses := c_read_houses (P := l.prog) (w := w) (base := base) (cA := (fun n => (([(0, C_WebError), (1, C_BadWeb), (5, C_BadOrder), (11, C_Broken), (15, C_NoStream), (16, C_NoText)] : List (Nat × Addr)).lookup n).getD 0)) (dA := 0) D10 B Z V (PySem.W.mg_of X G v_HOUSES) C_houses_line
  have C_is_number := c_is_number (P := l.prog) (w := w) (base := base) D11 B 
  have C_is_order := c_is_order (P := l.prog) (w := w) (base := base) D12 B C_is_number
  have C_order_line := c_order_line (P := l.prog) (w := w) (base := base) D13 B 
  have C_number_in := c_number_in (P := l.prog) (w := w) (base := base) D14 B (PySem.W.mg_of X G v_FIGURES)
  have C_roads_in := c_roads_in (P := l.prog) (w := w) (base := base) D15 B C_number_in
  have C_read_order := c_read_order (P := l.prog) (w := w) (base := base) (cA := (fun n => (([(0, C_WebError), (1, C_BadWeb), (5, C_BadOrder), (11, C_Broken), (15, C_NoStream), (16, C_NoText)] : List (Nat × Addr)).lookup n).getD 0)) (dA := 0) D16 B Z V C_is_order C_order_line C_roads_in
  have C_read_orders := c_read_orders (P := l.prog) (w := w) (base := base) (cA := (fun n => (([(0, C_WebError), (1, C_BadWeb), (5, C_BadOrder), (11, C_Broken), (15, C_NoStream), (16, C_NoText)] : List (Nat × Addr)).lookup n).getD 0)) (dA := 0) D17 B Z V C_read_order
  have C_is_number_to := c_is_number_to (P := l.prog) (w := w) (base := base) D18 B C_is_number
  have C_is_end := c_is_end (P := l.prog) (w := w) (base := base) D19 B C_is_number_to
  have C_is_tuple_of := c_is_tuple_of (P := l.prog) (w := w) (base := base) D20 B 
  have C_road_fault := c_road_fault (P := l.prog) (w := w) (base := base) D21 B (PySem.W.mg_of X G v_GREAT) C_is_end C_is_number_to C_is_tuple_of
  have C_end_word := c_end_word (P := l.prog) (w := w) (base := base) D22 B 
  have C_road_line := c_road_line (P := l.prog) (w := w) (base := base) D23 B C_end_word
  have C_read_roads := c_read_roads (P := l.prog) (w := w) (base := base) (cA := (fun n => (([(0, C_WebError), (1, C_BadWeb), (5, C_BadOrder), (11, C_Broken), (15, C_NoStream), (16, C_NoText)] : List (Nat × Addr)).lookup n).getD 0)) (dA := 0) D24 B Z V (PySem.W.mg_of X G v_ROADS) C_number_in C_road_fault C_road_line
  have C_web_text := c_web_text (P := l.prog) (w := w) (base := base) D25 B C_houses_line C_order_line C_road_line
  have C_read_web := c_read_web (P := l.prog) (w := w) (base := base) (cA := (fun n => (([(0, C_WebError), (1, C_BadWeb), (5, C_BadOrder), (11, C_Broken), (15, C_NoStream), (16, C_NoText)] : List (Nat × Addr)).lookup n).getD 0)) (dA := 0) D26 B Z V C_check_text C_read_houses C_read_orders C_read_roads C_web_text
  have C__law_told := c__law_told (P := l.prog) (w := w) (base := base) (cA := (fun n => (([(0, C_WebError), (1, C_BadWeb), (5, C_BadOrder), (11, C_Broken), (15, C_NoStream), (16, C_NoText)] : List (Nat × Addr)).lookup n).getD 0)) (dA := 0) D27 B Z V C_read_web C_web_text
  have C__law_order := c__law_order (P := l.prog) (w := w) (base := base) D28 B C__law_next
  have C__law_one := c__law_one (P := l.prog) (w := w) (base := base) D29 B C__law_next
  have C__law_room := c__law_room (P := l.prog) (w := w) (base := base) D30 B C__law_next C__law_one
  have C__law_road := c__law_road (P := l.prog) (w := w) (base := base) D31 B C__law_next C__law_room
  have C__law_web := c__law_web (P := l.prog) (w := w) (base := base) D32 B C__law_next C__law_order C__law_road
  exact ok_law (fun_mk (st := s_law) l33 c33 k33) B C__law_deck C__law_next C__law_spoilt C__law_text_fault C__law_told C__law_web C_web_text
end Row
open PySem PySem.W PyProof.Rows
set_option maxHeartbeats 0 in
theorem PySem.Challenge.cw_unturned_k78_texts_of_no_webs_holds : PySem.Challenge.rw_unturned_k78_texts_of_no_webs.Holds := by
  w_on; o_law; k_head; (case hw => w_witness2)
  k_fill
  refine Uv.walk_vK (l := PySem.Challenge.rw_unturned_k78_texts_of_no_webs) (n := 63) (k := 8) (x := "_law_script") (f := Fn.F_law_z202) rfl (by decide) rfl ⟨rfl, by decide, by decide⟩ (fun w h Y => PySem.W.kIn_of Y) ?F Fn.k78
  case F =>
    intro w mg fa h KX G hmg
    refine' Row.all_mk KX G hmg ?a0 ?l0 ?c0 ?k0 ?a1 ?l1 ?c1 ?k1 ?a2 ?l2 ?c2 ?k2 ?a3 ?l3 ?c3 ?k3 ?a4 ?l4 ?c4 ?k4 ?a5 ?l5 ?c5 ?k5 ?a6 ?l6 ?c6 ?k6 ?a7 ?l7 ?c7 ?k7 ?a8 ?l8 ?c8 ?k8 ?a9 ?l9 ?c9 ?k9 ?a10 ?l10 ?c10 ?k10 ?a11 ?l11 ?c11 ?k11 ?a12 ?l12 ?c12 ?k12 ?a13 ?l13 ?c13 ?k13 ?a14 ?l14 ?c14 ?k14 ?a15 ?l15 ?c15 ?k15 ?a16 ?l16 ?c16 ?k16 ?a17 ?l17 ?c17 ?k17 ?a18 ?l18 ?c18 ?k18 ?a19 ?l19 ?c19 ?k19 ?a20 ?l20 ?c20 ?k20 ?a21 ?l21 ?c21 ?k21 ?a22 ?l22 ?c22 ?k22 ?a23 ?l23 ?c23 ?k23 ?a24 ?l24 ?c24 ?k24 ?a25 ?l25 ?c25 ?k25 ?a26 ?l26 ?c26 ?k26 ?a27 ?l27 ?c27 ?k27 ?a28 ?l28 ?c28 ?k28 ?a29 ?l29 ?c29 ?k29 ?a30 ?l30 ?c30 ?k30 ?a31 ?l31 ?c31 ?k31 ?a32 ?l32 ?c32 ?k32 ?a33 ?l33 ?c33 ?k33 ?v_FIGURES ?v_GREAT ?v_HOUSES ?v_ROADS ?z_abs ?z_all ?z_bool ?z_enumerate ?z_int ?z_isinstance ?z_len ?z_range ?z_repr ?z_sorted ?z_str ?z_tuple ?y_WebError ?y_BadWeb ?y_BadOrder ?y_Broken ?y_NoStream ?y_NoText ?yt_BadOrder ?yh_BadOrder ?yt_BadWeb ?yh_BadWeb ?yt_Broken ?yh_Broken ?yt_NoStream ?yh_NoStream ?yt_NoText ?yh_NoText ?yt_WebError ?yh_WebError ?yb_WebError ?ye3 ?ye4 ?yb_NoText ?ye0_NoText ?ye1_NoText ?ye2_NoText ?ye5_NoText ?s_NoText_BadOrder ?s_NoText_BadWeb ?s_NoText_Broken ?s_NoText_NoStream ?s_NoText_NoText ?s_NoText_WebError ?no_NoText_line ?yk_NoText ?vl_NoText ?vo_NoText ?vs_NoText ?vi_NoText ?vt_NoText ?vf_NoText ?vc_NoText
    (case a0 => k_is); (case l0 => k_is); (case c0 => k_is); (case k0 => k_is); (case a1 => k_is); (case l1 => k_is); (case c1 => k_is); (case k1 => k_is); (case a2 => k_is); (case l2 => k_is); (case c2 => k_is); (case k2 => k_is); (case a3 => k_is); (case l3 => k_is); (case c3 => k_is); (case k3 => k_is); (case a4 => k_is); (case l4 => k_is); (case c4 => k_is); (case k4 => k_is); (case a5 => k_is); (case l5 => k_is); (case c5 => k_is); (case k5 => k_is); (case a6 => k_is); (case l6 => k_is); (case c6 => k_is); (case k6 => k_is); (case a7 => k_is); (case l7 => k_is); (case c7 => k_is); (case k7 => k_is); (case a8 => k_is); (case l8 => k_is); (case c8 => k_is); (case k8 => k_is); (case a9 => k_is); (case l9 => k_is); (case c9 => k_is); (case k9 => k_is); (case a10 => k_is); (case l10 => k_is); (case c10 => k_is); (case k10 => k_is); (case a11 => k_is); (case l11 => k_is); (case c11 => k_is); (case k11 => k_is); (case a12 => k_is); (case l12 => k_is); (case c12 => k_is); (case k12 => k_is); (case a13 => k_is); (case l13 => k_is); (case c13 => k_is); (case k13 => k_is); (case a14 => k_is); (case l14 => k_is); (case c14 => k_is); (case k14 => k_is); (case a15 => k_is); (case l15 => k_is); (case c15 => k_is); (case k15 => k_is); (case a16 => k_is); (case l16 => k_is); (case c16 => k_is); (case k16 => k_is); (case a17 => k_is); (case l17 => k_is); (case c17 => k_is); (case k17 => k_is); (case a18 => k_is); (case l18 => k_is); (case c18 => k_is); (case k18 => k_is); (case a19 => k_is); (case l19 => k_is); (case c19 => k_is); (case k19 => k_is); (case a20 => k_is); (case l20 => k_is); (case c20 => k_is); (case k20 => k_is); (case a21 => k_is); (case l21 => k_is); (case c21 => k_is); (case k21 => k_is); (case a22 => k_is); (case l22 => k_is); (case c22 => k_is); (case k22 => k_is); (case a23 => k_is); (case l23 => k_is); (case c23 => k_is); (case k23 => k_is); (case a24 => k_is); (case l24 => k_is); (case c24 => k_is); (case k24 => k_is); (case a25 => k_is); (case l25 => k_is); (case c25 => k_is); (case k25 => k_is); (case a26 => k_is); (case l26 => k_is); (case c26 => k_is); (case k26 => k_is); (case a27 => k_is); (case l27 => k_is); (case c27 => k_is); (case k27 => k_is); (case a28 => k_is); (case l28 => k_is); (case c28 => k_is); (case k28 => k_is); (case a29 => k_is); (case l29 => k_is); (case c29 => k_is); (case k29 => k_is); (case a30 => k_is); (case l30 => k_is); (case c30 => k_is); (case k30 => k_is); (case a31 => k_is); (case l31 => k_is); (case c31 => k_is); (case k31 => k_is); (case a32 => k_is); (case l32 => k_is); (case c32 => k_is); (case k32 => k_is); (case a33 => k_is); (case l33 => k_is); (case c33 => k_is); (case k33 => k_is); (case v_FIGURES => k_is); (case v_GREAT => k_is); (case v_HOUSES => k_is); (case v_ROADS => k_is); (case z_abs => k_is); (case z_all => k_is); (case z_bool => k_is); (case z_enumerate => k_is); (case z_int => k_is); (case z_isinstance => k_is); (case z_len => k_is); (case z_range => k_is); (case z_repr => k_is); (case z_sorted => k_is); (case z_str => k_is); (case z_tuple => k_is); (case y_WebError => k_is); (case y_BadWeb => k_is); (case y_BadOrder => k_is); (case y_Broken => k_is); (case y_NoStream => k_is); (case y_NoText => k_is); (case yt_BadOrder => k_is); (case yh_BadOrder => k_is); (case yt_BadWeb => k_is); (case yh_BadWeb => k_is); (case yt_Broken => k_is); (case yh_Broken => k_is); (case yt_NoStream => k_is); (case yh_NoStream => k_is); (case yt_NoText => k_is); (case yh_NoText => k_is); (case yt_WebError => k_is); (case yh_WebError => k_is); (case yb_WebError => k_is); (case ye3 => k_is); (case ye4 => k_is); (case yb_NoText => k_is); (case ye0_NoText => k_is); (case ye1_NoText => k_is); (case ye2_NoText => k_is); (case ye5_NoText => k_is); (case s_NoText_BadOrder => k_is); (case s_NoText_BadWeb => k_is); (case s_NoText_Broken => k_is); (case s_NoText_NoStream => k_is); (case s_NoText_NoText => k_is); (case s_NoText_WebError => k_is); (case no_NoText_line => k_is); (case yk_NoText => k_is); (case vl_NoText => k_is); (case vo_NoText => rfl); (case vs_NoText => k_is); (case vi_NoText => k_is); (case vt_NoText => k_is); (case vf_NoText => k_is); (case vc_NoText => k_is)
