import PyProof.Rows.All
import Wide.All
import OpenK.AllK
import Wide.FinOn
import HandS.Iter
import KE.GoesEnum
import PyProof.ReprRoads
import HandS.Dict
import PyProof.EqKinds
import PyProof.FactsAll.dict_1
import HandS.ForMost
import HandS.Evl
import HandS.Walk
import HandS.IsInst
import HandS.Wide
import HandS.NoneIn
import HandS.EndBits
import HandS.Codes
import HandS.TupAny
import HandS.TupMul
import HandS.Deep
import PyProof.TupleOfSeq
import PyProof.SeqIndex
import KE.DatumIndex
import HandS.Exc
import PyProof.CallFns
import HandS.SortInts
import HandS.Zip
import HandS.Star
import HandS.Conv
import KE.KRevSl
import HandS.Flt
import KE.DataCmp
import HandS.Zip0
import HandS.Strs
import HandS.SetFor
import HandS.DictComp
import HandS.Call
import HandS.RaiseMore
import KE.KDictPairs
import PyProof.Rows.IntBool
import KE.DatumOrd
import HandS.TryOnly
import HandS.ExcOwn
import HandS.Small
import HandS.ExcIs
import HandS.HotCalls
import HandS.Defaults
import KE.KMinKey
import PyProof.Rows.SetFrom
import HandS.TupSets
import HandS.SetBool
import KE.SortData
import HandS.Text
import HandS.StrMore
import HandS.FStr
import HandS.Flow
import HandS.ExcInit
import HandS.ExcField
import KE.KExcIs
import HandS.ReplaceLit
import HandS.Steps
import HandS.Style
import PyProof.SliceStr2
import KE.KDictLaw
import HandS.SetKeys
import HandS.More
import KE.KExcInit
import PyProof.ExcBaseAll.LookupError
import PyProof.CollectIter
import PyProof.WalksMore
import KE.KCallOwn
import KE.KTryMore
import HandS.ExcValue
import PySem.Challenge.RW_unturned_k09_refusals_and_bounds
set_option Elab.async false
set_option linter.all false
set_option maxRecDepth 100000
set_option maxHeartbeats 8000000
namespace Uv
open PySem PySem.Spec PyProof.Rows L2
abbrev leTail : List Value := [.type "LookupError", .type "Exception", .type "BaseException", .type "object"]
def oexL (C : Addr) : Obj → Bool
  | ⟨.type "type", _, .cls cd, sl⟩ => (match cd.mro, sl.toList with
    | .ref C' :: bm, [_, _, _, _, some (.builtin n), _] => C' == C && n == "LookupError.__new__" && !cd.hasDel && PySem.W.excTail leTail bm && cd.hasDict
    | _, _ => false)
  | _ => false
def oexO (C : Addr) : Obj → Bool
  | ⟨.type "type", _, .cls cd, sl⟩ => (match cd.mro, sl.toList with
    | .ref C' :: bm, [_, _, _, _, some (.builtin n), _] => C' == C && n == "ValueError.__new__" && !cd.hasDel && cd.hasDict && PySem.HandSPX.refsVE bm
    | _, _ => false)
  | _ => false
end Uv
namespace Hed
open PySem PySem.Spec PyProof.Rows L2 Uv
def topS (i : Nat) : Stmt := PySem.Challenge.pw_unturned_k09_refusals_and_bounds.main.body.getD i (.Pass ⟨0, 0, 0, 0⟩)
def clsBody0 : Stmt → List Stmt
  | .ClassDef (body := b) .. => b
  | _ => []
abbrev s__law_deck : Stmt := topS 33
abbrev s__law_kinds : Stmt := topS 36
abbrev s__law_made : Stmt := topS 37
abbrev s__law_next : Stmt := topS 34
abbrev s__law_odd : Stmt := topS 35
abbrev s_law : Stmt := topS 38
abbrev s_initBadWeb : Stmt := (clsBody0 (topS 2)).getD 0 (.Pass ⟨0, 0, 0, 0⟩)
abbrev s_initTooMany : Stmt := (clsBody0 (topS 7)).getD 0 (.Pass ⟨0, 0, 0, 0⟩)
abbrev s_initBroken : Stmt := (clsBody0 (topS 12)).getD 0 (.Pass ⟨0, 0, 0, 0⟩)
abbrev s_initNoRoom : Stmt := (clsBody0 (topS 15)).getD 0 (.Pass ⟨0, 0, 0, 0⟩)
abbrev s_initNoStream : Stmt := (clsBody0 (topS 16)).getD 0 (.Pass ⟨0, 0, 0, 0⟩)
abbrev s_initNoText : Stmt := (clsBody0 (topS 17)).getD 0 (.Pass ⟨0, 0, 0, 0⟩)
abbrev s_initNoDoor : Stmt := (clsBody0 (topS 18)).getD 0 (.Pass ⟨0, 0, 0, 0⟩)
abbrev s_initNoRoad : Stmt := (clsBody0 (topS 19)).getD 0 (.Pass ⟨0, 0, 0, 0⟩)
abbrev s_initNoHouse : Stmt := (clsBody0 (topS 20)).getD 0 (.Pass ⟨0, 0, 0, 0⟩)
abbrev s_initNoEnd : Stmt := (clsBody0 (topS 21)).getD 0 (.Pass ⟨0, 0, 0, 0⟩)
abbrev s_initNoMoment : Stmt := (clsBody0 (topS 22)).getD 0 (.Pass ⟨0, 0, 0, 0⟩)
end Hed
namespace Un
open PySem PySem.Spec PyProof.Rows L2
theorem meets_enumB {u : Value} {ob : Obj} {Hh : Heap → Prop} (B : Begins u ob Hh) :
    Meets (Builtin.«enumerate.__new__» ⟨[.type "enumerate", u], []⟩) (fun _ R st => Hh st.heap ∧
      R (.ok (.ret (.ref (st.heap.push ob).objs.size))) { st with heap := (st.heap.push ob).push { cls := .type "enumerate", data := .fields #[.none, .bool false, .ref st.heap.objs.size, rawInt 0, .none, .none] } }) :=
  .of_wp fun prog w A R st hh => by
    obtain ⟨hp, gn, dr, tk, os⟩ := st
    obtain ⟨hu, hh⟩ := hh
    have hsub := sub_enumerate
    have it1 : ∀ {A' : Around} {E : Value → Shared → Prop} {Q : Value → Shared → Prop}, Q (.ref hp.objs.size) ⟨hp.push ob, gn, dr, tk, os⟩ → wpAny (model prog w) A' (pyIter u) Q E ⟨hp, gn, dr, tk, os⟩ :=
      fun q => B.iter prog w _ _ ⟨hp, gn, dr, tk, os⟩ _ hu q
    wp_walk using it1
    refine wpAny_stack_any fun stk => wpAny_pure ?_
    split
    · rename_i cc _ _ _ _ _
      cases (cc == Value.type "enumerate") <;> (wp_walk using it1; exact ⟨_, rfl, hh⟩)
    · wp_walk using it1
      exact ⟨_, rfl, hh⟩
section
variable {prog : Program} {w : World} {A : Around} {E : Value → Shared → Prop} {s : Shared}
theorem call_enumT {l : Addr} {its : Array Value} {Q : Value → Shared → Prop} (hT : s.heap.IsTuple l its)
    (k : ∀ h', IsEnum h' (s.heap.objs.size + 1) s.heap.objs.size 0 .none → h'.IsTupleIter s.heap.objs.size l 0 →
      (∀ b o, s.heap.get? b = some o → h'.get? b = some o) → Q (.ref (s.heap.objs.size + 1)) { s with heap := h' }) :
    wpAny (model prog w) A (call (.type "enumerate") [.ref l]) Q E s := by
  refine callType_new F.called_enumerate (by decide) (F.typeCall_enumerate_1 _) (F.newCall_enumerate_1 _) (fun obj => F.args_object_init_2 obj _) F.entry_enumerate_new
    (meets_enumB (begins_tuple l its)) ⟨hT, ?_⟩
  have sz : (s.heap.push { cls := .type "tuple_iterator", data := .fields #[.ref l, .int 0 0] }).objs.size = s.heap.objs.size + 1 := Heap.size_push ..
  show _ ∧ _
  rw [sz]
  have en : IsEnum ((s.heap.push { cls := .type "tuple_iterator", data := .fields #[.ref l, .int 0 0] }).push
      { cls := .type "enumerate", data := .fields #[.none, .bool false, .ref s.heap.objs.size, rawInt 0, .none, .none] }) (s.heap.objs.size + 1) s.heap.objs.size 0 .none := by
    have g := Heap.get?_push_size (s.heap.push { cls := .type "tuple_iterator", data := .fields #[.ref l, .int 0 0] })
      (o := { cls := .type "enumerate", data := .fields #[.none, .bool false, .ref s.heap.objs.size, rawInt 0, .none, .none] }) rfl
    rw [sz] at g
    exact g
  exact ⟨⟨_, en, rfl⟩, k _ en ⟨_, Heap.get?_push_of_some _ (Heap.get?_push_size _ rfl), rfl, rfl⟩ fun b o x => Heap.get?_push_of_some _ (Heap.get?_push_of_some _ x)⟩
end
def IteT (K : PySem.W.Frag) (a : Addr) : It :=
  ⟨fun i H => ∃ (xs : List V) (x : V), SqT K H a xs ∧ xs[i]? = some x,
   fun i H v H' => ∃ T x, v = .ref T ∧ H T = none ∧ H' = upd H T (.tup [.int (i : Nat), x]) ∧ ∀ xs, SqT K H a xs → xs[i]? = some x,
   fun i H => ∃ xs : List V, SqT K H a xs ∧ xs.length = i⟩
theorem turn_enumT {P : Program} {w : World} {K : PySem.W.Frag} {elts : List Expr} {kk : Nat} {tpos : Pos} (a e it : Addr) (hai : a ≠ it) (hae : a ≠ e) :
    Turn P w K (.Tuple elts kk tpos) (IteT K a) [e, it] e (fun i h => (∃ old, IsEnum h e it ((i : Nat) : Int) old) ∧ h.IsTupleIter it a i ∧ e ≠ it) where
  mem := by simp
  obj := fun i h st b hb => by
    obtain ⟨⟨old, he⟩, ⟨o, ho, hc, hd⟩, _⟩ := st
    have eb : b = e ∨ b = it := by simpa using hb
    rcases eb with z | z
    · subst z
      exact ⟨_, he, fun v q => nomatch q⟩
    · subst z
      exact ⟨o, ho, fun v q => by rw [hd] at q; cases q⟩
  keep := fun i h h' st k => let ⟨⟨old, he⟩, ⟨o, ho, r⟩, hne⟩ := st; ⟨⟨old, k e (by simp) _ he⟩, ⟨o, k it (by simp) o ho, r⟩, hne⟩
  item := by
    intro X hP hw hK hc i pins s σ H E I hf st hg
    subst hP hw hK
    obtain ⟨⟨old, he⟩, hit, hne⟩ := st
    obtain ⟨xs, x, hq, hx⟩ := hg
    obtain ⟨its, rv, p, hz⟩ := I.tuple hq
    obtain ⟨u, hu, ru⟩ := rv.get hx
    have hlt : i < its.toArray.size := by
      have z := (List.getElem?_eq_some_iff.mp hu).1
      simpa using z
    have hel : e < s.heap.objs.size := Heap.lt_size he
    have hil : it < s.heap.objs.size := by
      obtain ⟨_, q, _⟩ := hit
      exact Heap.lt_size q
    have D := Draws.tuple (prog := X.prog) (w := X.w) (A := X.A.in1) (I.ok.hd hc) it a hai its.toArray
    refine wpAny_pyNext_enum_itemC D he ⟨hit, p⟩ hlt hne (by
      intro z
      have z' : e = it ∨ e = a := by simpa using z
      rcases z' with z1 | z1
      · exact hne z1
      · exact hae z1.symm) fun y h' tk hy ho hst' hT hsz hk => ?_
    have eu : y = u := by
      have z : its.toArray[i]? = some y := hy
      have z2 : its[i]? = some y := by simpa using z
      exact Option.some.inj (z2.symm.trans hu)
    subst eu
    refine ⟨_, rfl, wpAny_letOwnedTupleGo_enum (s := { s with heap := h', toks := tk + 1 }) ho fun h'' he' sb => ?_⟩
    have hT2 : h''.get? s.heap.objs.size = some { cls := .type "tuple", data := .seq #[.int i tk, y] } := (sb.2 _ (Nat.ne_of_gt hel)).trans hT
    have new : ObjOk X.prog X.w (upd H s.heap.objs.size (.tup [.int (i : Nat), x])) h'' s.heap.objs.size (.tup [.int (i : Nat), x]) :=
      ⟨by show 2 ≤ sizeLine; decide, [.int i tk, y], .cons ⟨_, rfl⟩ (.cons ru .nil), ⟨_, hT2, rfl, _, rfl⟩⟩
    have I1 : Inv X pins σ (upd H s.heap.objs.size (.tup [.int (i : Nat), x])) { s with heap := h'', toks := tk + 1 } :=
      I.turnedNew (ch := [e, it]) (fun b ob hb q => (sb.2 b (fun z => hb (by simp [z]))).trans (hk b ob (fun z => hb (by simp [z])) (fun z => hb (by simp [z])) q)) hf (Nat.le_refl _) new
    refine ⟨.ref s.heap.objs.size, _, I1, rfl, ⟨_, x, rfl, I.hok.fresh (Nat.le_refl _), rfl, fun ys hy => by rw [I.tuple_inj hy hq]; exact hx⟩, ⟨⟨y, ?_⟩, ?_, hne⟩, fun b hb => ?_⟩
    · have e1 : ((i + 1 : Nat) : Int) = (i : Int) + 1 := by omega
      rw [e1]
      exact he'
    · obtain ⟨⟨o, q, r⟩, _⟩ := hst'
      exact ⟨o, (sb.2 it (Ne.symm hne)).trans q, r⟩
    · have hb' : b < s.heap.objs.size := by
        have eb : b = e ∨ b = it := by simpa using hb
        rcases eb with z | z
        · rw [z]; exact hel
        · rw [z]; exact hil
      rw [upd_ne (Nat.ne_of_lt hb')]
      exact (hf b hb).1
  done := by
    intro X hP hw hK hc i pins s σ H E I hf st hg
    subst hP hw hK
    obtain ⟨⟨old, he⟩, hit, hne⟩ := st
    obtain ⟨xs, hq, hx⟩ := hg
    obtain ⟨its, rv, p, hz⟩ := I.tuple hq
    have hl := rv.length
    have D := Draws.tuple (prog := X.prog) (w := X.w) (A := X.A.in1) (I.ok.hd hc) it a hai its.toArray
    have en : its.toArray.size = i := by
      simp
      omega
    obtain ⟨f0, f1, f2, f3, f4, f5⟩ := hf it (by simp)
    refine wpAny_pyNext_enum_endD D he (en.symm ▸ ⟨hit, p⟩) fun h' eb => ⟨rfl, I.turned (t' := s.toks) (fun b o hb q => eb b o hb q) f0 f1 f3 f4 f5⟩
  self := fun A i s Q E st h => let ⟨⟨_, he⟩, _⟩ := st; wpAny_pyIter_enum he h
def iEnumT (K : PySem.W.Frag) (ta : TA) : TI := fun σ H R => ta σ H fun vs H1 => ∃ a xs, vs = [.ref a] ∧ SqT K H1 a xs ∧ R (IteT K a) H1
theorem pi_enumT {X : Cx} {e : Expr} {ta : TA} {p pos tpos : Pos} {elts : List Expr} {kk : Nat} (hg : Gl X "enumerate") (hm : X.mg "enumerate" = none) (ha : PA X [e] ta)
    (hs : starEach [e] X.env = [(false, eval e X.env)] := by rfl) : PI X (.Tuple elts kk tpos) (.Call (.Name "enumerate" p) [e] [] pos) (iEnumT X.K ta) := by
  refine ⟨fun pins s σ H R I h => ?_⟩
  refine Call_ (ld_blt I hg hm boot_enumerate (PyProof.Rows.callWith_type1 (thn (ha.run pos pins s σ H _ I h) fun us s1 ⟨vs, H1, I1, r1, q1⟩ => ?_) hs rfl))
  obtain ⟨a, xs, ex, hq, q⟩ := q1
  subst ex
  cases r1 with
  | cons r rr =>
    cases rr
    cases r
    obtain ⟨its, rv, pt, hz⟩ := I1.tuple hq
    have hal : a < s1.heap.objs.size := by
      obtain ⟨o, ho, _⟩ := (show s1.heap.IsTuple a its.toArray from pt)
      exact Heap.lt_size ho
    refine call_enumT pt fun h' he hit hk => wpAny_pyIter_enum he ?_
    have I2 : Inv X pins σ H1 { s1 with heap := h' } := I1.kept (t' := s1.toks) hk
    refine ⟨s1.heap.objs.size + 1, [s1.heap.objs.size + 1, s1.heap.objs.size], _, _, H1, rfl, I2,
      turn_enumT a (s1.heap.objs.size + 1) s1.heap.objs.size (Nat.ne_of_lt hal) (Nat.ne_of_lt (Nat.lt_succ_of_lt hal)), ⟨⟨.none, he⟩, hit, Nat.succ_ne_self _⟩, fun b hb => ?_, q⟩
    have hle : s1.heap.objs.size ≤ b := by
      have e' : b = s1.heap.objs.size + 1 ∨ b = s1.heap.objs.size := by simpa using hb
      rcases e' with z | z
      · rw [z]; exact Nat.le_add_right _ _
      · rw [z]; exact Nat.le_refl _
    exact I1.fpOk hle (I1.hok.fresh hle)
end Un

namespace Uv
open PySem PySem.Spec PyProof.Rows L2
mutual
inductive Rm (h : Heap) : Value → PyData → Prop
  | non : Rm h .none .none
  | bl (b : Bool) : Rm h (.bool b) (.bool b)
  | int (i t) : Rm h (.int i t) (.int i)
  | str (x t) : Rm h (.str x t) (.str x)
  | lst {a o vs n xs} : h.get? a = some o → o.cls = .type "list" → o.data = .seq vs n → Rms h vs.toList xs → Rm h (.ref a) (.list xs)
  | tup {a o vs n xs} : h.get? a = some o → o.cls = .type "tuple" → o.data = .seq vs n → Rms h vs.toList xs → Rm h (.ref a) (.tuple xs)
  | dct {a o es n kvs} : h.get? a = some o → o.cls = .type "dict" → o.data = .dict es n → (a == sysModules) = false → Rms h (es.toList.map (·.key)) (kvs.map (·.1)) → Rms h (es.toList.map (·.val)) (kvs.map (·.2)) → Rm h (.ref a) (.dict kvs)
inductive Rms (h : Heap) : List Value → List PyData → Prop
  | nil : Rms h [] []
  | cons {v vs d ds} : Rm h v d → Rms h vs ds → Rms h (v :: vs) (d :: ds)
end
section
variable {P : Program} {w : World} {g : Heap}
mutual
theorem Rm.rd : ∀ {v : Value} {d : PyData}, Rm g v d → ∃ as, Reads g v d as
  | _, _, .non => ⟨_, .none⟩
  | _, _, .bl b => ⟨_, .bool b⟩
  | _, _, .int i t => ⟨_, .int i t⟩
  | _, _, .str x t => ⟨_, .str x t⟩
  | _, _, .lst a b c r => let ⟨_, q⟩ := Rms.rd r; ⟨_, .list a b c q⟩
  | _, _, .tup a b c r => let ⟨_, q⟩ := Rms.rd r; ⟨_, .tuple a b c q⟩
  | _, _, .dct a b c _ r s => let ⟨_, q⟩ := Rms.rd r; let ⟨_, t⟩ := Rms.rd s; ⟨_, .dict a b c q t⟩
theorem Rms.rd : ∀ {vs : List Value} {ds : List PyData}, Rms g vs ds → ∃ as, ReadsAll g vs ds as
  | _, _, .nil => ⟨_, .nil⟩
  | _, _, .cons r s => let ⟨_, q⟩ := Rm.rd r; let ⟨_, t⟩ := Rms.rd s; ⟨_, .cons q t⟩
end
mutual
theorem Rm.rk : ∀ {v : Value} {d : PyData}, Rm g v d → d.showable = true → d.shown.length ≤ sizeLine → ∃ l, ReadAtMost g d.depth l ∧ ReprK P w l g d.depth v d.shown
  | _, _, .non, _, _ => ⟨[], nofun, by rw [PyData.shown]; exact .of_is ReprIs.none _ _ _⟩
  | _, _, .bl b, _, _ => ⟨[], nofun, by rw [PyData.shown]; exact .of_is (ReprIs.bool b) _ _ _⟩
  | _, _, .int i t, e, _ => ⟨[], nofun, by rw [PyData.shown]; exact .of_is (ReprIs.int t (by simpa [PyData.showable] using e)) _ _ _⟩
  | _, _, .str x t, _, z => ⟨[], nofun, by rw [PyData.shown] at z ⊢; exact .of_is (ReprIs.str x t z) _ _ _⟩
  | _, _, .lst (a := p) (vs := vs) (xs := ds) o1 o2 o3 q, e, z => by
    rw [PyData.shown] at z
    obtain ⟨_, full⟩ := Rm.rd (.lst o1 o2 o3 q)
    obtain ⟨l, l1, l2⟩ := Rms.rk q (by simpa [PyData.showable] using e) fun t m => Nat.le_trans (listText_mem_le m) z
    have off : p ∉ l := not_mem_of_deeper full (by rw [PyData.depth]; omega) l1
    refine ⟨p :: l, l1.cons full (by rw [PyData.depth]; omega), ?_⟩
    rw [PyData.depth, PyData.shown]
    obtain ⟨v⟩ := vs
    cases v with
    | cons x v => exact ReprK.list o1 o2 o3 off (by simpa using l2.length_eq) fun i y m => l2.item i y (by simpa using m)
    | nil =>
      have q' : Rms g [] ds := q
      cases q'
      rw [PyData.shownAll, listText_nil]
      exact ReprK.listEmpty o1 o2 o3
  | _, _, .tup (a := p) (xs := ds) o1 o2 o3 q, e, z => by
    rw [PyData.shown] at z
    obtain ⟨_, full⟩ := Rm.rd (.tup o1 o2 o3 q)
    obtain ⟨l, l1, l2⟩ := Rms.rk q (by simpa [PyData.showable] using e) fun t m => Nat.le_trans (tupleText_mem_le m) z
    have off : p ∉ l := not_mem_of_deeper full (by rw [PyData.depth]; omega) l1
    refine ⟨p :: l, l1.cons full (by rw [PyData.depth]; omega), ?_⟩
    rw [PyData.depth, PyData.shown]
    exact ReprK.tuple o1 o2 o3 off l2
  | _, _, .dct (a := p) (es := es) (kvs := ps) o1 o2 o3 o4 q1 q2, e, z => by
    rw [PyData.shown] at z
    obtain ⟨_, full⟩ := Rm.rd (.dct o1 o2 o3 o4 q1 q2)
    obtain ⟨e1, e2⟩ := PyData.showableKv_split ps (by simpa [PyData.showable] using e)
    obtain ⟨l, l1, l2⟩ := Rms.rk q1 e1 fun t m => let ⟨_, u1, u2⟩ := PyData.shownKv_key_le ps t m; Nat.le_trans u2 (Nat.le_trans (dictText_mem_le u1) z)
    obtain ⟨k, k1, k2⟩ := Rms.rk q2 e2 fun t m => let ⟨_, u1, u2⟩ := PyData.shownKv_val_le ps t m; Nat.le_trans u2 (Nat.le_trans (dictText_mem_le u1) z)
    have lk : ReadAtMost g (PyData.depthKv ps) (l ++ k) := (l1.mono (PyData.depthAll_keys_le ps)).append (k1.mono (PyData.depthAll_vals_le ps))
    have off : p ∉ l ++ k := not_mem_of_deeper full (by rw [PyData.depth]; omega) lk
    refine ⟨p :: (l ++ k), lk.cons full (by rw [PyData.depth]; omega), ?_⟩
    rw [PyData.depth, PyData.shown, PyData.shownKv_eq]
    exact ReprK.dict o1 o2 o3 o4 off (ReprEntriesK.of_two es.toList _ _ (l2.more_le (fun _ => List.mem_append_left _) (PyData.depthAll_keys_le ps)) (k2.more_le (fun _ => List.mem_append_right _) (PyData.depthAll_vals_le ps)))
theorem Rms.rk : ∀ {vs : List Value} {ds : List PyData}, Rms g vs ds → PyData.showableAll ds = true → (∀ t ∈ PyData.shownAll ds, t.length ≤ sizeLine) → ∃ l, ReadAtMost g (PyData.depthAll ds) l ∧ ReprAllK P w l g (PyData.depthAll ds) vs (PyData.shownAll ds)
  | _, _, .nil, _, _ => ⟨[], nofun, by rw [PyData.shownAll]; exact .nil⟩
  | _, _, .cons (d := d) (ds := ds) q r, e, z => by
    obtain ⟨e1, e2⟩ : d.showable = true ∧ PyData.showableAll ds = true := by simpa [PyData.showableAll] using e
    rw [PyData.shownAll] at z
    obtain ⟨l, l1, l2⟩ := Rm.rk q e1 (z _ (List.mem_cons_self ..))
    obtain ⟨k, k1, k2⟩ := Rms.rk r e2 fun t m => z t (List.mem_cons_of_mem _ m)
    rw [PyData.depthAll, PyData.shownAll]
    exact ⟨l ++ k, (l1.mono (Nat.le_max_left _ _)).append (k1.mono (Nat.le_max_right _ _)), .cons ((l2.more fun _ => List.mem_append_left _).level_le (Nat.le_max_left _ _)) (k2.more_le (fun _ => List.mem_append_right _) (Nat.le_max_right _ _))⟩
end
theorem Rm.shows {a : Addr} {d : PyData} (r : Rm g (.ref a) d) (e : d.showable = true) (z : d.shown.length ≤ sizeLine) : ∃ T i, ShowsBy P w g a d T i := by
  obtain ⟨_, full⟩ := r.rd
  cases r with
  | lst o1 o2 o3 q =>
    rename_i o vs n ds
    rw [PyData.shown] at z
    obtain ⟨l, l1, l2⟩ := Rms.rk (P := P) (w := w) q (by simpa [PyData.showable] using e) fun t m => Nat.le_trans (listText_mem_le m) z
    have off : a ∉ l := not_mem_of_deeper full (by rw [PyData.depth]; omega) l1
    refine ⟨"list", "list.__repr__", F.slot_list_repr.toG, F.slot_list_str, F.slot_list_format, fun s k => ⟨o, k _ _ o1, o2⟩, fun A E s Q ag au k hq => ?_⟩
    rw [PyData.depth] at au
    rw [PyData.shown] at hq
    obtain ⟨v⟩ := vs
    cases v with
    | cons x v => exact call_list_reprK o1 o2 o3 off (by simpa using l2.length_eq) (fun i y m => l2.item i y (by simpa using m)) ag (fun b _ => Clear.nil b) au k hq z
    | nil =>
      have q' : Rms g [] ds := q
      cases q'
      rw [PyData.shownAll, listText_nil] at hq
      exact call_list_repr_empty ⟨o, k _ _ o1, o2⟩ (k _ _ o1) o3 (hq s.heap _ _ fun _ _ y => y)
  | tup o1 o2 o3 q =>
    rename_i o vs n ds
    rw [PyData.shown] at z
    obtain ⟨l, l1, l2⟩ := Rms.rk (P := P) (w := w) q (by simpa [PyData.showable] using e) fun t m => Nat.le_trans (tupleText_mem_le m) z
    have off : a ∉ l := not_mem_of_deeper full (by rw [PyData.depth]; omega) l1
    refine ⟨"tuple", "tuple.__repr__", F.slot_tuple_repr, F.slot_tuple_str, F.slot_tuple_format, fun s k => ⟨o, k _ _ o1, o2⟩, fun A E s Q ag au k hq => ?_⟩
    rw [PyData.depth] at au
    rw [PyData.shown] at hq
    exact call_tuple_reprK o1 o2 o3 off l2 ag (fun b _ => Clear.nil b) au k hq z
  | dct o1 o2 o3 o4 q1 q2 =>
    rename_i o es n ps
    rw [PyData.shown] at z
    obtain ⟨e1, e2⟩ := PyData.showableKv_split ps (by simpa [PyData.showable] using e)
    obtain ⟨l, l1, l2⟩ := Rms.rk (P := P) (w := w) q1 e1 fun t m => let ⟨_, u1, u2⟩ := PyData.shownKv_key_le ps t m; Nat.le_trans u2 (Nat.le_trans (dictText_mem_le u1) z)
    obtain ⟨k, k1, k2⟩ := Rms.rk (P := P) (w := w) q2 e2 fun t m => let ⟨_, u1, u2⟩ := PyData.shownKv_val_le ps t m; Nat.le_trans u2 (Nat.le_trans (dictText_mem_le u1) z)
    have lk : ReadAtMost g (PyData.depthKv ps) (l ++ k) := (l1.mono (PyData.depthAll_keys_le ps)).append (k1.mono (PyData.depthAll_vals_le ps))
    have off : a ∉ l ++ k := not_mem_of_deeper full (by rw [PyData.depth]; omega) lk
    refine ⟨"dict", "dict.__repr__", F.slot_dict_repr, F.slot_dict_str, F.slot_dict_format, fun s k => ⟨o, k _ _ o1, o2⟩, fun A E s Q ag au kk hq => ?_⟩
    rw [PyData.depth] at au
    rw [PyData.shown, PyData.shownKv_eq] at hq
    exact call_dict_reprK o1 o2 o3 o4 off (ReprEntriesK.of_two es.toList _ _ (l2.more_le (fun _ => List.mem_append_left _) (PyData.depthAll_keys_le ps)) (k2.more_le (fun _ => List.mem_append_right _) (PyData.depthAll_vals_le ps))) ag (fun b _ => Clear.nil b) au kk hq (by rw [← PyData.shownKv_eq]; exact z)
theorem Rm.repr {A : Around} {E : Value → Shared → Prop} {s : Shared} {Q : Value → Shared → Prop} {a : Addr} {d : PyData} (r : Rm s.heap (.ref a) d) (e : d.showable = true) (ag : A.guards = some []) (au : A.units + (d.depth + 1) < cLine) (hq : ∀ h' u tk, (∀ b o, s.heap.get? b = some o → h'.get? b = some o) → Q (.str d.shown u) { s with heap := h', toks := tk }) (z : d.shown.length ≤ sizeLine) : wpAny (model P w) A (call (.builtin "repr") [.ref a]) Q E s := by
  obtain ⟨T, i, S⟩ := r.shows (P := P) (w := w) e z
  have k0 : ∀ (b : Addr) (o : Obj), s.heap.get? b = some o → s.heap.get? b = some o := fun _ _ y => y
  exact call_repr_slot (by omega) (S.typeIs s k0) S.slotRepr (S.call A.in1 E s _ ag (by show A.units + 1 + d.depth < cLine; omega) k0 fun h' u tk k => ⟨_, _, rfl, hq h' u tk k⟩)
end
end Uv

namespace Uv
open PySem PySem.Spec PyProof.Rows L2
theorem dct_no (a : Addr) (es : Array DictEntry) (n : Nat) (p : Option Addr) (c : Array (Option Value)) (x : Str) (t : Tok) : Meets (Builtin.«dict.__eq__» ⟨[.ref a, .str x t], []⟩) (fun _ R s => s.heap.get? a = some { cls := .type "dict", dict := p, data := .dict es n, slots := c } ∧ R (.ok (.ret .notImplemented)) s) :=
  .of_wp fun pr w A R s h => by
    obtain ⟨hp, g, d, tk, os⟩ := s
    obtain ⟨ho, h⟩ := h
    have no := F.sub_str_dict
    wp_walk using wpAny_loadPart' ho
    exact ⟨_, rfl, h⟩
theorem str_no (a : Addr) (k : Value) (es : Array DictEntry) (n : Nat) (p : Option Addr) (c : Array (Option Value)) (x : Str) (t : Tok) : Meets (Builtin.«str.__eq__» ⟨[.str x t, .ref a], []⟩) (fun _ R s => s.heap.get? a = some { cls := k, dict := p, data := .dict es n, slots := c } ∧ R (.ok (.ret .notImplemented)) s) :=
  .of_wp fun pr w A R s h => by
    obtain ⟨hp, g, d, tk, os⟩ := s
    obtain ⟨ho, h⟩ := h
    wp_walk using wpAny_loadPart' ho, wpAny_load ho
    exact ⟨_, rfl, h⟩
theorem dct_str {A : Around} {s : Shared} {a : Addr} {es : Array DictEntry} {n : Nat} {p : Option Addr} {c : Array (Option Value)} (x : Str) (t : Tok) (ho : s.heap.get? a = some { cls := .type "dict", dict := p, data := .dict es n, slots := c }) (hu : A.units < cLine) : SeqAt.RcAt A s (.ref a) (.str x t) false := fun pr w E Q h =>
  SeqAt.rc_eq_decline_or (k := false) ⟨_, ho, rfl⟩ (typeIs_str s x t) (by decide) F.sub_str_dict F.slot_dict_eq F.slot_str_eq_refl
    (fun _ q => call_meets F.slot_dict_eq ⟨_, ho, rfl⟩ F.entry_dict_eq (F.args_dict_eq_2 _ _) (dct_no a es n p c x t) ⟨ho, q⟩)
    (fun _ q => call_meets F.slot_str_eq_refl (typeIs_str s x t) F.entry_str_eq (F.args_str_eq_2 _ _) (str_no a (.type "dict") es n p c x t) ⟨ho, q⟩)
    (fun _ q => wpAny_of_eq (rfl : isSame (.ref a) (.str x t) = pure false) q) (.inr hu) h
end Uv

namespace Uv
open PySem PySem.Spec PyProof.Rows L2
open Evl (Ex)
def Plain (o : Obj) : Prop := o.cls = .type "tuple" ∧ o.dict = none
abbrev fz (o : Obj) (xs : List V) : HO := .frz o (.tup xs)
def tTupF (t : TA) : TE := fun σ H Q => t σ H fun xs H1 => xs.length ≤ sizeLine ∧ ∀ p o, H1 p = none → Plain o → Q (.ref p) (upd H1 p (fz o xs))
theorem pe_tupF {X : Cx} {es : List Expr} {t : TA} {pos : Pos} {x1} (h : PA X es t) : PE X (.Tuple es x1 pos) (tTupF t) := by
  refine ⟨fun pins s σ H Q I hq => ?_⟩
  refine wpAny_Tuple_spliced (thn (h.run pos pins s σ H _ I hq) fun us s1 ⟨xs, H1, I1, r, z, q⟩ => ⟨by rw [← r.length]; exact z, ?_⟩)
  have I2 : Inv X pins σ (upd H1 s1.heap.objs.size (fz { cls := .type "tuple", data := .seq us.toArray } xs)) { s1 with heap := s1.heap.push { cls := .type "tuple", data := .seq us.toArray }, toks := s1.toks } :=
    I1.laid (t' := s1.toks) (fun b u e => Heap.get?_push_of_some _ e) (Nat.le_refl _) (show ObjOk X.prog X.w _ _ _ (.frz _ (.tup xs)) from ⟨Heap.get?_push_size _ rfl, z, us, r, IsTup.new _ _⟩)
  exact ⟨.ref s1.heap.objs.size, _, I2, rfl, q _ _ (I1.hok.fresh (Nat.le_refl _)) ⟨rfl, rfl⟩⟩
def rCatF (K : PySem.W.Frag) : R2 := fun x y H Q => ∃ a b xs ys, x = .ref a ∧ y = .ref b ∧ SqT K H a xs ∧ SqT K H b ys ∧ xs.length + ys.length ≤ sizeLine ∧
  (xs = [] → Q (.ref b) H) ∧ (xs ≠ [] → ys = [] → Q (.ref a) H) ∧ (xs ≠ [] → ys ≠ [] → ∀ p o, H p = none → Plain o → Q (.ref p) (upd H p (fz o (xs ++ ys))))
theorem op_catF {X : Cx} : OpR X (binaryOp .Add) (rCatF X.K) := by
  intro pins s σ H x y v u Q I rx ry h
  obtain ⟨a, b, xs, ys, rfl, rfl, ha, hb, hz, q0, q1, q2⟩ := h
  cases rx
  cases ry
  obtain ⟨its, r1, p1, _⟩ := I.tuple ha
  obtain ⟨its2, r2, p2, _⟩ := I.tuple hb
  by_cases hx : xs = []
  · subst hx
    cases r1
    exact cat_tup0 p1 p2 ⟨.ref b, H, I, rfl, q0 rfl⟩
  · refine HT.cat_tup p1 p2 (fun z => hx (r1.nil_iff.mp z)) (fun z => ⟨.ref a, H, I, rfl, q1 hx (r2.nil_iff.mp z)⟩) (fun z => ?_) (by rw [← r1.length, ← r2.length]; exact hz)
    have hy : ys ≠ [] := fun w => z (r2.nil_iff.mpr w)
    have ok := I.laid (t' := s.toks) (o := fz _ (xs ++ ys)) (fun b ob q => Heap.get?_push_of_some _ q) (Nat.le_refl _) (show ObjOk X.prog X.w _ _ _ (.frz _ (.tup (xs ++ ys))) from ⟨Heap.get?_push_size _ rfl, by rw [List.length_append]; exact hz, _, r1.append r2, IsTup.new _ _⟩)
    exact ⟨.ref s.heap.objs.size, _, ok, rfl, q2 hx hy _ _ (I.hok.fresh (Nat.le_refl _)) ⟨rfl, rfl⟩⟩
theorem u65 {k : Nat} {A : Around} (r : Room k A) : A.units + 65 < cLine := by have := r.un; omega
end Uv

namespace Uv
open PySem PySem.Spec PyProof.Rows L2
open Evl (Ex)
class KK where
  fr : PySem.W.Frag
  /-- the exception classes of the program, by number -/
  cl : Nat → Option Addr
  /-- defs that are told as values, by number -/
  fn : Nat → Option Addr
  /-- the class Hall -/
  hall : Addr
abbrev K [kk : KK] : PySem.W.Frag := kk.fr
variable [kk : KK]
abbrev PD := PyData
abbrev scrD (ds : List PD) : PD := .dict [(.none, .list ds)]
theorem sqx {K : PySem.W.Frag} {H H' : Hp} {a : Addr} {xs : List V} (e : Ex H H') (h : SqL K H a xs) : SqL K H' a xs := h.elim (fun r => .inl (r.elim (fun r => .inl (e _ _ r)) fun ⟨o, r⟩ => .inr ⟨o, e _ _ r⟩)) .inr
abbrev Hs := Addr → Prop
open Classical in
noncomputable def hid (S : Hs) (H : Hp) : Hp := fun x => if S x then none else H x
section
variable {S S' : Hs} {H H' : Hp} {x p : Addr} {o : HO}
theorem hid_in (h : S x) : hid S H x = none := by unfold hid; rw [if_pos h]
theorem hid_out (h : ¬ S x) : hid S H x = H x := by unfold hid; rw [if_neg h]
theorem hid_some (h : hid S H x = some o) : ¬ S x ∧ H x = some o := by
  by_cases c : S x
  · rw [hid_in c] at h; cases h
  · rw [hid_out c] at h; exact ⟨c, h⟩
theorem hid_ex (e : Ex H H') : Ex (hid S H) (hid S H') := fun x o h => by
  obtain ⟨c, h⟩ := hid_some h
  rw [hid_out c]; exact e x o h
theorem hid_le : Ex (hid S H) H := fun x o h => (hid_some h).2
theorem hid_sub (h : ∀ x, S' x → S x) : Ex (hid S H) (hid S' H) := fun x o q => by
  obtain ⟨c, q⟩ := hid_some q
  rw [hid_out fun z => c (h x z)]; exact q
theorem hid_eq (h : ∀ x, S x ↔ S' x) : hid S H = hid S' H := by
  funext x
  by_cases c : S x
  · rw [hid_in c, hid_in ((h x).mp c)]
  · rw [hid_out c, hid_out fun z => c ((h x).mpr z)]
def Al (S : Hs) (H : Hp) : Prop := ∀ x, S x → H x ≠ none
theorem Al.ex (a : Al S H) (e : Ex H H') : Al S H' := fun x hx z => by
  cases q : H x with
  | none => exact a x hx q
  | some o => rw [e x o q] at z; cases z
theorem Al.new (a : Al S H) (hp : H p = none) : ¬ S p := fun z => a p z hp
theorem new_ok (al : Al S H) (hp : H p = none) : hid S (upd H p o) p = some o := by rw [hid_out (al.new hp), upd_same]
theorem hid_cons (e : Ex H H') (hp : H p = none) : Ex (hid S H) (hid (fun x => x = p ∨ S x) H') := fun x o h => by
  obtain ⟨c, h⟩ := hid_some h
  have n : ¬ (x = p ∨ S x) := fun z => z.elim (fun z => by subst z; rw [hp] at h; cases h) c
  rw [hid_out n]; exact e x o h
end
abbrev dciD (ks : List Int) (ds : List PD) : PD := .dict [(.bool true, .list [.list (ks.map PyData.int), .list ds])]
def exFld : Nat → List Str
  | 1 => ["word", "path"]
  | 6 => ["bound"]
  | 11 => ["number"]
  | 14 => ["room"]
  | 15 => ["fault"]
  | 16 => ["line"]
  | 17 => ["road"]
  | 18 => ["road"]
  | 19 => ["house"]
  | 20 => ["end"]
  | 21 => ["number"]
  | _ => []
abbrev heldD (n : Nat) (ds : List PD) : PD := .dict [(.none, .int (n : Int)), (.none, .list ds)]
abbrev fnD (n : Nat) : PD := .dict [(.none, .int (n : Int))]
abbrev hallD (ws st : List PD) (bz : Bool) (lg : List PD) : PD := .dict [(.none, .tuple ws), (.none, .tuple st), (.none, .bool bz), (.none, .list lg)]
def ExH (C : Addr) (od : Option Addr) (a : Addr) : HO := .ext fun h => ∃ (oe : Obj) (vs : Array Value), h.get? a = some oe ∧ Zc (.ref C) od oe ∧ oe.data = .fields vs
def DcAt (H : Hp) (od : Option Addr) (fs : List Str) (xs : List V) : Prop := match fs with
  | [] => od = none ∧ xs = []
  | _ => ∃ dd, od = some dd ∧ H dd = some (.xd (fs.zip xs)) ∧ fs.length = xs.length
theorem DcAt.ex {H H' : Hp} (e : Ex H H') {od : Option Addr} {fs : List Str} {xs : List V} (h : DcAt H od fs xs) : DcAt H' od fs xs := by
  cases fs with
  | nil => exact h
  | cons f fs =>
    obtain ⟨dd, h1, h2, h3⟩ := h
    exact ⟨dd, h1, e _ _ h2, h3⟩
abbrev hallF (w s : V) (bz : Bool) (l : Addr) : List (Str × V) := [("webs", w), ("stood", s), ("busy", .bl bz), ("logged", .ref l)]
mutual
inductive Rp (H : Hp) : V → PD → Prop
  | non : Rp H .non .none
  | bl (b : Bool) : Rp H (.bl b) (.bool b)
  | int (i : Int) : Rp H (.int i) (.int i)
  | str (x : Str) : Rp H (.str x) (.str x)
  | lst {a : Addr} {xs : List V} {ds : List PD} : H a = some (.lst xs) → RpAll H xs ds → Rp H (.ref a) (.list ds)
  | tup {a : Addr} {o : Obj} {xs : List V} {ds : List PD} : H a = some (fz o xs) → Plain o → RpAll H xs ds → Rp H (.ref a) (.tuple ds)
  | dct {a : Addr} {ks : List Str} {xs : List V} {ds : List PD} {ps : List (PD × PD)} : H a = some (.dK ((ks.map Sum.inr).zip xs)) → ks.length = xs.length → ps = (ks.map PyData.str).zip ds → RpAll H xs ds → Rp H (.ref a) (.dict ps)
  | dci {a : Addr} {ks : List Int} {xs : List V} {ds : List PD} : H a = some (.dK ((ks.map Sum.inl).zip xs)) → ks.length = xs.length → RpAll H xs ds → Rp H (.ref a) (dciD ks ds)
  | scr {a : Addr} {xs : List V} {ds : List PD} : SqL K H a xs → RpAll H xs ds → Rp H (.ref a) (scrD ds)
  | exo {a C : Addr} {n : Nat} {od : Option Addr} {xs : List V} {ds : List PD} : kk.cl n = some C → H a = some (ExH C od a) → DcAt H od (exFld n) xs → RpAll H xs ds → Rp H (.ref a) (heldD n ds)
  | «fun» {a : Addr} {n : Nat} : kk.fn n = some a → Rp H (.ref a) (fnD n)
  | hal {a dx l : Addr} {w s : V} {lv : List V} {ws st lg : List PD} {bz : Bool} : H a = some (.ins kk.hall dx (hallF w s bz l)) → H l = some (.lst lv) → Rp H w (.tuple ws) → Rp H s (.tuple st) → RpAll H lv lg → Rp H (.ref a) (hallD ws st bz lg)
inductive RpAll (H : Hp) : List V → List PD → Prop
  | nil : RpAll H [] []
  | cons {v : V} {vs : List V} {d : PD} {ds : List PD} : Rp H v d → RpAll H vs ds → RpAll H (v :: vs) (d :: ds)
end
mutual
theorem Rp.ex {H H' : Hp} (e : Ex H H') : ∀ {v : V} {d : PD}, Rp H v d → Rp H' v d
  | _, _, .non => .non
  | _, _, .bl b => .bl b
  | _, _, .int i => .int i
  | _, _, .str x => .str x
  | _, _, .lst h r => .lst (e _ _ h) (RpAll.ex e r)
  | _, _, .tup h p r => .tup (e _ _ h) p (RpAll.ex e r)
  | _, _, .dct h l q r => .dct (e _ _ h) l q (RpAll.ex e r)
  | _, _, .dci h l r => .dci (e _ _ h) l (RpAll.ex e r)
  | _, _, .scr h r => .scr (sqx e h) (RpAll.ex e r)
  | _, _, .exo c h d r => .exo c (e _ _ h) (d.ex e) (RpAll.ex e r)
  | _, _, .«fun» h => .«fun» h
  | _, _, .hal h l w s r => .hal (e _ _ h) (e _ _ l) (Rp.ex e w) (Rp.ex e s) (RpAll.ex e r)
theorem RpAll.ex {H H' : Hp} (e : Ex H H') : ∀ {vs : List V} {ds : List PD}, RpAll H vs ds → RpAll H' vs ds
  | _, _, .nil => .nil
  | _, _, .cons h r => .cons (Rp.ex e h) (RpAll.ex e r)
end
mutual
theorem Rp.dp {H : Hp} : ∀ {v : V} {d : PD}, Rp H v d → d.hasDict = false → Dp K H v d
  | _, _, .non, _ => .non
  | _, _, .bl b, _ => .bl b
  | _, _, .int i, _ => .int i
  | _, _, .str x, _ => .str x
  | _, _, .lst h r, n => .lst (.inl (.inl h)) (RpAll.dp r (by simpa [PyData.hasDict] using n))
  | _, _, .tup h _ r, n => .tup (.inl (.inr ⟨_, h⟩)) (RpAll.dp r (by simpa [PyData.hasDict] using n))
  | _, _, .dct h _ _ _, n => by simp [PyData.hasDict] at n
  | _, _, .dci h _ _, n => by simp [PyData.hasDict] at n
  | _, _, .scr h r, n => by simp [PyData.hasDict] at n
  | _, _, .exo _ _ _ _, n => by simp [PyData.hasDict] at n
  | _, _, .«fun» _, n => by simp [PyData.hasDict] at n
  | _, _, .hal _ _ _ _ _, n => by simp [PyData.hasDict] at n
theorem RpAll.dp {H : Hp} : ∀ {vs : List V} {ds : List PD}, RpAll H vs ds → PyData.hasDictAll ds = false → DpAll K H vs ds
  | _, _, .nil, _ => .nil
  | _, _, .cons h r, n => by
    simp only [PyData.hasDictAll, Bool.or_eq_false_iff] at n
    exact .cons (Rp.dp h n.1) (RpAll.dp r n.2)
end
section
variable {H : Hp}
theorem RpAll.length : ∀ {vs : List V} {ds : List PD}, RpAll H vs ds → vs.length = ds.length
  | _, _, .nil => rfl
  | _, _, .cons _ r => by rw [List.length_cons, List.length_cons, RpAll.length r]
theorem RpAll.get : ∀ {vs : List V} {ds : List PD} {i : Nat} {d : PD}, RpAll H vs ds → ds[i]? = some d → ∃ v, vs[i]? = some v ∧ Rp H v d
  | _, _, _, _, .nil, e => by simp at e
  | _, _, 0, _, .cons h _, e => by
    simp at e
    subst e
    exact ⟨_, rfl, h⟩
  | _, _, i + 1, d, .cons _ r, e => by
    obtain ⟨v, h1, h2⟩ := RpAll.get (i := i) (d := d) r (by simpa using e)
    exact ⟨v, by simpa using h1, h2⟩
theorem RpAll.append : ∀ {vs ws : List V} {ds es : List PD}, RpAll H vs ds → RpAll H ws es → RpAll H (vs ++ ws) (ds ++ es)
  | _, _, _, _, .nil, s => s
  | _, _, _, _, .cons h r, s => .cons h (RpAll.append r s)
theorem RpAll.at {vs : List V} {ds : List PD} {i : Int} {d : PD} (r : RpAll H vs ds) (h : atI ds i = some d) : ∃ v, atI vs i = some v ∧ Rp H v d := by
  unfold atI at h ⊢
  rw [r.length]
  cases e : ixN ds.length i with
  | none => rw [e] at h; cases h
  | some j =>
    rw [e] at h
    exact r.get (i := j) h
theorem RpAll.set : ∀ {vs : List V} {ds : List PD} {v : V} {d : PD} (n : Nat), RpAll H vs ds → Rp H v d → RpAll H (vs.set n v) (ds.set n d)
  | _, _, _, _, _, .nil, _ => by simpa using RpAll.nil
  | _, _, _, _, 0, .cons _ r, h => by simpa using RpAll.cons h r
  | _, _, _, _, n + 1, .cons h0 r, h => by simpa using RpAll.cons h0 (RpAll.set n r h)
theorem RpAll.rep {vs : List V} {ds : List PD} (r : RpAll H vs ds) : ∀ n, RpAll H (List.replicate n vs).flatten (List.replicate n ds).flatten
  | 0 => .nil
  | n + 1 => by
    rw [List.replicate_succ, List.replicate_succ, List.flatten_cons, List.flatten_cons]
    exact r.append (RpAll.rep r n)
def unB : List PD → Option (List Bool)
  | [] => some []
  | .bool b :: r => (unB r).map (b :: ·)
  | _ => none
theorem RpAll.ofInts : ∀ (ns : List Int), RpAll H (ns.map V.int) (ns.map PyData.int)
  | [] => .nil
  | n :: ns => .cons (.int n) (RpAll.ofInts ns)
end
omit kk in
theorem zip_str {ks : List Str} {ds : List PD} {ps : List (PD × PD)} (h : ps = (ks.map PyData.str).zip ds) : ps = [] ∨ ∃ k d r, ps = (PyData.str k, d) :: r := by
  subst h
  cases ks with
  | nil => exact .inl rfl
  | cons k ks => cases ds with
    | nil => exact .inl rfl
    | cons d ds => exact .inr ⟨k, d, _, rfl⟩
mutual
def scrF : PD → Bool
  | .none | .bool _ | .int _ | .str _ => true
  | .list xs | .tuple xs => scrFs xs
  | .dict kvs => scrFk kvs
def scrFs : List PD → Bool
  | [] => true
  | x :: xs => scrF x && scrFs xs
def scrFk : List (PD × PD) → Bool
  | [] => true
  | (k, v) :: r => (match k with | .str _ => true | _ => false) && scrF v && scrFk r
end
theorem scrFk_zip : ∀ {ks : List Str} {ds : List PD}, ks.length = ds.length → scrFk ((ks.map PyData.str).zip ds) = scrFs ds
  | [], [], _ => rfl
  | k :: ks, d :: ds, h => by
    show (true && scrF d && scrFk ((ks.map PyData.str).zip ds)) = (scrF d && scrFs ds)
    rw [scrFk_zip (by simpa using h), Bool.true_and]
section
variable {X : Cx} {pins : List (Addr × Obj)} {σ : L2.St} {H : Hp} {s : Shared}
theorem rm_keys {P : Program} {w : World} {g : Heap} : ∀ {ks : List Str} {xs : List V} {vs : List (Key × Value)} {es : List DictEntry}, ks.length = xs.length → KV ((ks.map Sum.inr).zip xs) vs → Pairs (mixKind P w) es vs → Rms g (es.map (·.key)) (ks.map PyData.str) ∧ Vals xs (es.map (·.val))
  | [], [], _, _, _, r, p => by
    cases r
    cases p
    exact ⟨.nil, .nil⟩
  | k :: ks, x :: xs, _, _, hl, r, p => by
    have r : KV ((Sum.inr k, x) :: (ks.map Sum.inr).zip xs) _ := r
    cases r with
    | cons h t =>
      cases p with
      | cons p1 p2 p3 =>
        obtain ⟨h1, h2⟩ := h
        obtain ⟨q1, q2⟩ := rm_keys (g := g) (by simpa using hl) t p3
        rcases keyIs_shape p1 with ⟨i, u, e, _⟩ | ⟨y, u, e, e2⟩
        · rw [← h1] at e; exact nomatch e
        · rw [← h1] at e
          have e : k = y := Sum.inr.inj e
          subst e
          refine ⟨?_, ?_⟩
          · refine Rms.cons (ds := ks.map PyData.str) ?_ q1
            show Rm g _ (PyData.str k)
            have z := Rm.str (h := g) k u
            rw [← e2] at z
            exact z
          · refine Paired.cons ?_ q2
            show RelV x _
            have z : RelV x _ := h2
            rw [← p2] at z
            exact z
mutual
theorem Rp.rm (I : L2.Inv X pins σ H s) : ∀ {v : V} {d : PD}, Rp H v d → scrF d = true → ∀ {u : Value}, RelV v u → Rm s.heap u d
  | _, _, .non, _, _, r => by cases r; exact .non
  | _, _, .bl b, _, _, r => by cases r; exact .bl b
  | _, _, .int i, _, _, r => by obtain ⟨t, rfl⟩ := r; exact .int i t
  | _, _, .str x, _, _, r => by obtain ⟨t, rfl⟩ := r; exact .str x t
  | _, _, .lst h ra, f, _, r => by
    cases r
    obtain ⟨its, rv, ⟨o, n, ho, hc, _, hd⟩, _⟩ := I.list (show SqL X.K H _ _ from .inl (.inl h))
    exact .lst ho hc hd (RpAll.rm I ra (by simpa [scrF] using f) rv)
  | _, _, .tup h _ ra, f, _, r => by
    cases r
    obtain ⟨its, rv, ⟨o, ho, hc, n, hd⟩, _⟩ := I.tuple (show SqT X.K H _ _ from .inl (.inr ⟨_, h⟩))
    exact .tup ho hc hd (RpAll.rm I ra (by simpa [scrF] using f) rv)
  | _, _, .dct (ks := ks) (xs := xs) (ds := ds) h hl hp ra, f, _, r => by
    cases r
    subst hp
    have ld : xs.length = ds.length := ra.length
    obtain ⟨_, sm, vs, rel, o, es, ep, h1, h2, h3, _, h5, _⟩ := dk_of I.hok h
    obtain ⟨k1, k2⟩ := rm_keys (g := s.heap) hl rel h5
    refine .dct h1 h2.1 h3 sm ?_ ?_
    · rw [List.map_fst_zip (by simp; omega)]; exact k1
    · rw [List.map_snd_zip (by simp; omega)]
      refine RpAll.rm I ra ?_ k2
      rw [← scrFk_zip (ks := ks) (by omega)]
      simpa [scrF] using f
  | _, _, .scr _ _, f, _, _ => by simp [scrF, scrFk] at f
  | _, _, .dci _ _ _, f, _, _ => by simp [scrF, scrFk] at f
  | _, _, .exo _ _ _ _, f, _, _ => by simp [scrF, scrFk] at f
  | _, _, .«fun» _, f, _, _ => by simp [scrF, scrFk] at f
  | _, _, .hal _ _ _ _ _, f, _, _ => by simp [scrF, scrFk] at f
theorem RpAll.rm (I : L2.Inv X pins σ H s) : ∀ {vs : List V} {ds : List PD}, RpAll H vs ds → scrFs ds = true → ∀ {us : List Value}, Vals vs us → Rms s.heap us ds
  | _, _, .nil, _, _, r => by cases r; exact .nil
  | _, _, .cons h t, f, _, r => by
    simp only [scrFs, Bool.and_eq_true] at f
    cases r with
    | cons r1 r2 => exact .cons (Rp.rm I h f.1 r1) (RpAll.rm I t f.2 r2)
end
end
abbrev VE := List (Option PD)
def En (H : Hp) (σ : L2.St) (ρ : VE) : Prop := σ.length = ρ.length ∧ ∀ (i : Nat) (d : PD), ρ[i]? = some (some d) → ∃ v, σ[i]? = some (some v) ∧ Rp H v d
section
variable {H H' : Hp} {σ : L2.St} {ρ : VE}
theorem En.ex (h : En H σ ρ) (e : Ex H H') : En H' σ ρ := ⟨h.1, fun i d hi => let ⟨v, h1, h2⟩ := h.2 i d hi; ⟨v, h1, h2.ex e⟩⟩
theorem En.set (h : En H σ ρ) (j : Nat) {v : V} {d : PD} (hr : Rp H v d) : En H (σ.set j (some v)) (ρ.set j (some d)) := by
  refine ⟨by rw [List.length_set, List.length_set]; exact h.1, fun i q hi => ?_⟩
  by_cases c : j = i
  · subst c
    have hl : j < ρ.length := by
      have := (List.getElem?_eq_some_iff.mp hi).1
      simpa using this
    rw [List.getElem?_set_self hl] at hi
    cases hi
    exact ⟨v, List.getElem?_set_self (by rw [h.1]; exact hl), hr⟩
  · rw [List.getElem?_set_ne c] at hi
    rw [List.getElem?_set_ne c]
    exact h.2 i q hi
theorem En.clear (h : En H σ ρ) (j : Nat) (o : Option V) : En H (σ.set j o) (ρ.set j none) := by
  refine ⟨by rw [List.length_set, List.length_set]; exact h.1, fun i q hi => ?_⟩
  by_cases c : j = i
  · subst c
    have hl : j < ρ.length := by
      have := (List.getElem?_eq_some_iff.mp hi).1
      simpa using this
    rw [List.getElem?_set_self hl] at hi
    cases hi
  · rw [List.getElem?_set_ne c] at hi
    rw [List.getElem?_set_ne c]
    exact h.2 i q hi
end
def Ed (te : TE) (ρ : VE) (d : PD) : Prop := ∀ S σ H, Al S H → En (hid S H) σ ρ → ∀ Q : VK, (∀ v H2, Ex H H2 → Rp (hid S H2) v d → Q v H2) → te σ H Q
def Et (tt : TT) (ρ : VE) (b : Bool) : Prop := ∀ S σ H, Al S H → En (hid S H) σ ρ → ∀ Q : Bool → Hp → Prop, (∀ H2, Ex H H2 → Q b H2) → tt σ H Q
def Ea (ta : TA) (ρ : VE) (ds : List PD) : Prop := ∀ S σ H, Al S H → En (hid S H) σ ρ → ∀ Q : List V → Hp → Prop, (∀ vs H2, Ex H H2 → RpAll (hid S H2) vs ds → Q vs H2) → ta σ H Q
def Ro (r : R2) (x y z : PD) : Prop := ∀ S H vx vy, Al S H → Rp (hid S H) vx x → Rp (hid S H) vy y → ∀ Q : VK, (∀ v H2, Ex H H2 → Rp (hid S H2) v z → Q v H2) → r vx vy H Q
def Ru (r : V → Hp → VK → Prop) (x z : PD) : Prop := ∀ S H vx, Al S H → Rp (hid S H) vx x → ∀ Q : VK, (∀ v H2, Ex H H2 → Rp (hid S H2) v z → Q v H2) → r vx H Q
def Rc (r : List V → Hp → VK → Prop) (xs : List PD) (z : PD) : Prop := ∀ S H vs, Al S H → RpAll (hid S H) vs xs → ∀ Q : VK, (∀ v H2, Ex H H2 → Rp (hid S H2) v z → Q v H2) → r vs H Q
abbrev XE := VE → Option PD
abbrev XT := VE → Option Bool
abbrev XA := VE → Option (List PD)
def SE (te : TE) (x : XE) : Prop := ∀ ρ d, x ρ = some d → Ed te ρ d
def ST (tt : TT) (x : XT) : Prop := ∀ ρ b, x ρ = some b → Et tt ρ b
def SA (ta : TA) (x : XA) : Prop := ∀ ρ ds, x ρ = some ds → Ea ta ρ ds
def SO (r : R2) (f : PD → PD → Option PD) : Prop := ∀ x y z, f x y = some z → Ro r x y z
def SU (r : V → Hp → VK → Prop) (f : PD → Option PD) : Prop := ∀ x z, f x = some z → Ru r x z
def SC (r : List V → Hp → VK → Prop) (f : List PD → Option PD) : Prop := ∀ xs z, f xs = some z → Rc r xs z
theorem bind_some {α β : Type} {a : Option α} {f : α → Option β} {z : β} (h : a.bind f = some z) : ∃ x, a = some x ∧ f x = some z := by
  cases a with
  | none => cases h
  | some x => exact ⟨x, rfl, h⟩
def xVar (i : Nat) : XE := fun ρ => (ρ[i]?).bind id
def xC (d : PD) : XE := fun _ => some d
def xOp (f : PD → PD → Option PD) (a b : XE) : XE := fun ρ => (a ρ).bind fun x => (b ρ).bind fun y => f x y
def xUn (f : PD → Option PD) (a : XE) : XE := fun ρ => (a ρ).bind f
def xNil : XA := fun _ => some []
def xCons (a : XE) (as : XA) : XA := fun ρ => (a ρ).bind fun x => (as ρ).bind fun xs => some (x :: xs)
def xTup (as : XA) : XE := fun ρ => (as ρ).bind fun ds => if ds.length ≤ 100000 then some (.tuple ds) else none
def xLst (as : XA) : XE := fun ρ => (as ρ).bind fun ds => if ds.length ≤ 100000 then some (.list ds) else none
def xCB (f : List PD → Option PD) (as : XA) : XE := fun ρ => (as ρ).bind f
def isB : PD → Option Bool
  | .bool b => some b
  | _ => none
theorem isB_eq {d : PD} {b : Bool} (h : isB d = some b) : d = .bool b := by
  cases d with
  | bool c => cases h; rfl
  | _ => cases h
def xB (a : XE) : XT := fun ρ => (a ρ).bind isB
def xTOr (a b : XT) : XT := fun ρ => (a ρ).bind fun c => if c = true then some true else b ρ
def xTNot (a : XT) : XT := fun ρ => (a ρ).bind fun c => some (!c)
def xYes : XT := fun _ => some true
def xAnd (a b : XE) : XE := fun ρ => ((a ρ).bind isB).bind fun c => if c = true then b ρ else some (.bool false)
def xNot (a : XE) : XE := fun ρ => ((a ρ).bind isB).bind fun c => some (.bool (!c))
def xChain (f g : PD → PD → Option PD) (a b c : XE) : XE := fun ρ => (a ρ).bind fun x => (b ρ).bind fun y => ((f x y).bind isB).bind fun k => if k = true then (c ρ).bind fun z => g y z else some (.bool false)
section
variable {ta tb tc te : TE} {t u : TT} {ts : TA} {a b c x : XE} {p q : XT} {as : XA} {r r' : R2} {f g : PD → PD → Option PD}
theorem se_var {i : Nat} : SE (tVar i) (xVar i) := fun ρ d h S σ H _ en Q q => by
  obtain ⟨o, h1, h2⟩ := bind_some h
  cases h2
  obtain ⟨v, e, rv⟩ := en.2 i d h1
  exact ⟨v, e, q v H (Ex.refl H) rv⟩
theorem se_int {i : Int} : SE (tC (.int i)) (xC (.int i)) := fun ρ d h S σ H _ _ Q q => by cases h; exact q _ H (Ex.refl H) (.int i)
theorem se_bl {b : Bool} : SE (tC (.bl b)) (xC (.bool b)) := fun ρ d h S σ H _ _ Q q => by cases h; exact q _ H (Ex.refl H) (.bl b)
theorem se_non : SE (tC .non) (xC .none) := fun ρ d h S σ H _ _ Q q => by cases h; exact q _ H (Ex.refl H) .non
theorem se_str {s : Str} : SE (tC (.str s)) (xC (.str s)) := fun ρ d h S σ H _ _ Q q => by cases h; exact q _ H (Ex.refl H) (.str s)
theorem se_d0 : SE tDNewK (xC (.dict [])) := fun ρ d h S σ H al _ Q q => by
  cases h
  intro p hp
  exact q _ _ (Ex.new hp) (.dct (ks := []) (xs := []) (ds := []) (new_ok al hp) rfl rfl .nil)
theorem se_op (hr : SO r f) (ha : SE ta a) (hb : SE tb b) : SE (tOp r ta tb) (xOp f a b) := fun ρ d h S σ H al en Q q => by
  obtain ⟨x, h1, h⟩ := bind_some h
  obtain ⟨y, h2, h⟩ := bind_some h
  exact ha ρ x h1 S σ H al en _ fun vx H1 e1 rx => hb ρ y h2 S σ H1 (al.ex e1) (en.ex (hid_ex e1)) _ fun vy H2 e2 ry =>
    hr x y d h S H2 vx vy ((al.ex e1).ex e2) (rx.ex (hid_ex e2)) ry Q fun v H3 e3 rv => q v H3 ((e1.trans e2).trans e3) rv
theorem se_un {r : V → Hp → VK → Prop} {f : PD → Option PD} (hr : SU r f) (ha : SE ta a) : SE (tUn r ta) (xUn f a) := fun ρ d h S σ H al en Q q => by
  obtain ⟨x, h1, h⟩ := bind_some h
  exact ha ρ x h1 S σ H al en _ fun vx H1 e1 rx => hr x d h S H1 vx (al.ex e1) rx Q fun v H3 e3 rv => q v H3 (e1.trans e3) rv
theorem sa_nil : SA tNil xNil := fun ρ ds h S σ H _ _ Q q => by cases h; exact q [] H (Ex.refl H) .nil
theorem sa_cons (ha : SE ta a) (hs : SA ts as) : SA (tCons ta ts) (xCons a as) := fun ρ ds h S σ H al en Q q => by
  obtain ⟨x, h1, h⟩ := bind_some h
  obtain ⟨xs, h2, h⟩ := bind_some h
  cases h
  exact ha ρ x h1 S σ H al en _ fun v H1 e1 rv => hs ρ xs h2 S σ H1 (al.ex e1) (en.ex (hid_ex e1)) _ fun vs H2 e2 rs => q (v :: vs) H2 (e1.trans e2) (.cons (rv.ex (hid_ex e2)) rs)
theorem se_tup (hs : SA ts as) : SE (tTupF ts) (xTup as) := fun ρ d h S σ H al en Q q => by
  obtain ⟨ds, h1, h⟩ := bind_some h
  by_cases hl : ds.length ≤ 100000
  · rw [if_pos hl] at h
    cases h
    refine hs ρ ds h1 S σ H al en _ fun vs H1 e1 ra => ⟨by rw [ra.length]; exact Evl.sz_of hl, fun p o hp pl => q _ _ (e1.trans (Ex.new hp)) (.tup (new_ok (al.ex e1) hp) pl (ra.ex (hid_ex (Ex.new hp))))⟩
  · rw [if_neg hl] at h; cases h
theorem se_cb {r : List V → Hp → VK → Prop} {f : List PD → Option PD} (hr : SC r f) (hs : SA ts as) : SE (tCB r ts) (xCB f as) := fun ρ d h S σ H al en Q q => by
  obtain ⟨ds, h1, h⟩ := bind_some h
  exact hs ρ ds h1 S σ H al en _ fun vs H1 e1 rv => hr ds d h S H1 vs (al.ex e1) rv Q fun v H2 e2 r2 => q v H2 (e1.trans e2) r2
theorem st_test (ha : SE ta a) : ST (tTest ta) (xB a) := fun ρ b h S σ H al en Q q => by
  obtain ⟨x, h1, h⟩ := bind_some h
  have e := isB_eq h
  subst e
  exact ha ρ _ h1 S σ H al en _ fun v H1 e1 rv => by cases rv; exact ⟨b, rfl, q H1 e1⟩
theorem st_yes : ST tYes xYes := fun ρ b h S σ H al en Q q => by cases h; exact q H (Ex.refl H)
theorem st_or (ht : ST t p) (hu : ST u q) : ST (tOr t u) (xTOr p q) := fun ρ b h S σ H al en Q k => by
  obtain ⟨c, h1, h⟩ := bind_some h
  refine ht ρ c h1 S σ H al en _ fun H1 e1 => ?_
  cases c with
  | true => cases h; exact k H1 e1
  | false => exact hu ρ b h S σ H1 (al.ex e1) (en.ex (hid_ex e1)) Q fun H2 e2 => k H2 (e1.trans e2)
end
end Uv

namespace Uv
open PySem PySem.Spec PyProof.Rows L2
open Evl (Ex)
variable [kk : KK]
theorem OpR.or {X : Cx} {f : Value → Value → Sem Value} {r r' : R2} (h : OpR X f r) (h' : OpR X f r') : OpR X f (fun x y H Q => r x y H Q ∨ r' x y H Q) := fun pins s σ H x y v u Q I rx ry q =>
  q.elim (h pins s σ H x y v u Q I rx ry) (h' pins s σ H x y v u Q I rx ry)
theorem PI.or {X : Cx} {tg e : Expr} {t u : TI} (h : PI X tg e t) (h' : PI X tg e u) : PI X tg e (fun σ H Q => t σ H Q ∨ u σ H Q) := ⟨fun pins s σ H Q I q => q.elim (h.run pins s σ H Q I) (h'.run pins s σ H Q I)⟩
abbrev oDivW : R2 := rI CDivW fun i j => .int (i / j)
abbrev oMod : R2 := rI (fun _ j => 0 < j) fun i j => .int (i % j)
abbrev oPow : R2 := rI CPow fun i j => .int (i ^ j.toNat)
abbrev oGt : R2 := rI0 fun i j => .bl (decide (j < i))
abbrev oGe : R2 := rI0 fun i j => .bl (decide (j ≤ i))
abbrev oNeg : V → Hp → VK → Prop := rU fun i => .int (-i)
abbrev rAbsQ : List V → Hp → VK → Prop := fun xs H Q => ∃ i, xs = [.int i] ∧ Q (.int (if i < 0 then -i else i)) H
section
def addP : PD → PD → Option PD
  | .int i, .int j => some (.int (i + j))
  | .list xs, .list ys => if xs.length + ys.length ≤ 100000 then some (.list (xs ++ ys)) else none
  | .tuple xs, .tuple ys => if xs.length + ys.length ≤ 100000 then some (.tuple (xs ++ ys)) else none
  | _, _ => none
def rAddU (K : PySem.W.Frag) : R2 := fun x y H Q => rI0 (fun i j => .int (i + j)) x y H Q ∨ (rCat x y H Q ∨ rCatF K x y H Q)
theorem op_addU {X : Cx} : OpR X (binaryOp .Add) (rAddU X.K) := OpR.or op_add (OpR.or op_cat op_catF)
theorem so_add : SO (rAddU K) addP := fun x y z h S H vx vy al rx ry Q q => by
  cases rx with
  | int i =>
    cases ry with
    | int j =>
      cases h
      exact .inl ⟨i, j, rfl, rfl, q _ H (Ex.refl H) (.int _)⟩
    | _ => cases h
  | @lst a xs ds ha ra =>
    cases ry with
    | @lst b ys es hb rb =>
      have h : (if ds.length + es.length ≤ 100000 then some (PyData.list (ds ++ es)) else none) = some z := h
      by_cases c : ds.length + es.length ≤ 100000
      · rw [if_pos c] at h
        cases h
        refine .inr (.inl ⟨a, b, xs, ys, rfl, rfl, hid_le _ _ ha, hid_le _ _ hb, by rw [ra.length, rb.length]; exact Evl.sz_of c, fun p hp => q _ _ (Ex.new hp) (.lst (new_ok al hp) ((ra.append rb).ex (hid_ex (Ex.new hp))))⟩)
      · rw [if_neg c] at h; cases h
    | _ => cases h
  | @tup a o xs ds ha pa ra =>
    cases ry with
    | @tup b o' ys es hb pb rb =>
      have h : (if ds.length + es.length ≤ 100000 then some (PyData.tuple (ds ++ es)) else none) = some z := h
      by_cases c : ds.length + es.length ≤ 100000
      · rw [if_pos c] at h
        cases h
        refine .inr (.inr ⟨a, b, xs, ys, rfl, rfl, .inl (.inr ⟨_, hid_le _ _ ha⟩), .inl (.inr ⟨_, hid_le _ _ hb⟩), by rw [ra.length, rb.length]; exact Evl.sz_of c, fun e => ?_, fun _ e => ?_, fun _ _ p o hp pl => q _ _ (Ex.new hp) (.tup (new_ok al hp) pl ((ra.append rb).ex (hid_ex (Ex.new hp))))⟩)
        · subst e
          cases ra
          exact q _ H (Ex.refl H) (.tup hb pb rb)
        · subst e
          cases rb
          exact q _ H (Ex.refl H) (by rw [List.append_nil]; exact .tup ha pa ra)
      · rw [if_neg c] at h; cases h
    | _ => cases h
  | _ => cases h
def intF (f : Int → Int → Option PD) : PD → PD → Option PD
  | .int i, .int j => f i j
  | _, _ => none
theorem intF_eq {f : Int → Int → Option PD} {x y z : PD} (h : intF f x y = some z) : ∃ i j, x = .int i ∧ y = .int j ∧ f i j = some z := by
  cases x with
  | int i =>
    cases y with
    | int j => exact ⟨i, j, rfl, rfl, h⟩
    | _ => cases h
  | _ => cases h
theorem so_rI {C : Int → Int → Prop} {g : Int → Int → Int} {f : Int → Int → Option PD} (hf : ∀ i j z, f i j = some z → C i j ∧ z = .int (g i j)) : SO (rI C fun i j => .int (g i j)) (intF f) := fun x y z h S H vx vy al rx ry Q q => by
  obtain ⟨i, j, rfl, rfl, h⟩ := intF_eq h
  obtain ⟨h1, rfl⟩ := hf i j z h
  cases rx; cases ry
  exact ⟨i, j, rfl, rfl, h1, q _ H (Ex.refl H) (.int _)⟩
theorem so_rIb {g : Int → Int → Bool} : SO (rI0 fun i j => .bl (g i j)) (intF fun i j => some (.bool (g i j))) := fun x y z h S H vx vy al rx ry Q q => by
  obtain ⟨i, j, rfl, rfl, h⟩ := intF_eq h
  cases h
  cases rx; cases ry
  exact ⟨i, j, rfl, rfl, q _ H (Ex.refl H) (.bl _)⟩
def divP : PD → PD → Option PD := intF fun i j => if 0 < j ∧ j < 2 ^ 64 then some (.int (i / j)) else none
def modP : PD → PD → Option PD := intF fun i j => if 0 < j then some (.int (i % j)) else none
def powP : PD → PD → Option PD := intF fun i j => if 0 ≤ j ∧ j ≤ 1000 ∧ -(2 ^ 63) < i ∧ i < 2 ^ 63 then some (.int (i ^ j.toNat)) else none
def leP : PD → PD → Option PD := intF fun i j => some (.bool (decide (i ≤ j)))
def geP : PD → PD → Option PD := intF fun i j => some (.bool (decide (j ≤ i)))
theorem so_ge : SO oGe geP := so_rIb
theorem so_div : SO oDivW divP := so_rI fun i j z h => by
  by_cases c : 0 < j ∧ j < 2 ^ 64
  · rw [if_pos c] at h
    cases h
    exact ⟨⟨c.1, Nat.lt_of_lt_of_le (PySem.Flt.log2_lt_of (k := 64) (by decide) (by omega)) (by decide)⟩, rfl⟩
  · rw [if_neg c] at h; cases h
theorem so_mod : SO oMod modP := so_rI fun i j z h => by
  by_cases c : 0 < j
  · rw [if_pos c] at h
    cases h
    exact ⟨c, rfl⟩
  · rw [if_neg c] at h; cases h
theorem so_pow : SO oPow powP := so_rI fun i j z h => by
  by_cases c : 0 ≤ j ∧ j ≤ 1000 ∧ -(2 ^ 63) < i ∧ i < 2 ^ 63
  · rw [if_pos c] at h
    cases h
    exact ⟨⟨c.1, by omega, by omega⟩, rfl⟩
  · rw [if_neg c] at h; cases h
def mulP : PD → PD → Option PD
  | .int i, .int j => if (-(2 ^ 64) < i ∧ i < 2 ^ 64) ∨ (-(2 ^ 64) < j ∧ j < 2 ^ 64) then some (.int (i * j)) else none
  | .list xs, .int j => if 0 ≤ j ∧ j ≤ 100000 ∧ xs.length * j.toNat ≤ 100000 then some (.list (List.replicate j.toNat xs).flatten) else none
  | _, _ => none
def rMulU : R2 := fun x y H Q => rI CMul (fun i j => .int (i * j)) x y H Q ∨ rRep x y H Q
theorem op_mulU {X : Cx} : OpR X (binaryOp .Mult) rMulU := OpR.or op_mul op_rep
theorem so_mul : SO rMulU mulP := fun x y z h S H vx vy al rx ry Q q => by
  cases rx with
  | int i =>
    cases ry with
    | int j =>
      have h : (if (-(2 ^ 64) < i ∧ i < 2 ^ 64) ∨ (-(2 ^ 64) < j ∧ j < 2 ^ 64) then some (PyData.int (i * j)) else none) = some z := h
      by_cases c : (-(2 ^ 64) < i ∧ i < 2 ^ 64) ∨ (-(2 ^ 64) < j ∧ j < 2 ^ 64)
      · rw [if_pos c] at h
        cases h
        exact .inl ⟨i, j, rfl, rfl, c, q _ H (Ex.refl H) (.int _)⟩
      · rw [if_neg c] at h; cases h
    | _ => cases h
  | @lst a xs ds ha ra =>
    cases ry with
    | int j =>
      have h : (if 0 ≤ j ∧ j ≤ 100000 ∧ ds.length * j.toNat ≤ 100000 then some (PyData.list (List.replicate j.toNat ds).flatten) else none) = some z := h
      by_cases c : 0 ≤ j ∧ j ≤ 100000 ∧ ds.length * j.toNat ≤ 100000
      · rw [if_pos c] at h
        cases h
        refine .inr ⟨_, _, _, rfl, rfl, hid_le _ _ ha, by omega, by omega, ?_, fun p hp => q _ _ (Ex.new hp) (.lst (new_ok al hp) ((ra.rep j.toNat).ex (hid_ex (Ex.new hp))))⟩
        rw [ra.length]
        exact Evl.sz_of c.2.2
      · rw [if_neg c] at h; cases h
    | _ => cases h
  | _ => cases h
def negP : PD → Option PD
  | .int i => some (.int (-i))
  | _ => none
theorem su_neg : SU oNeg negP := fun x z h S H vx al rx Q q => by
  cases rx with
  | int i => cases h; exact ⟨i, rfl, q _ H (Ex.refl H) (.int _)⟩
  | _ => cases h
def eqE : PD → PD → Option PD
  | .tuple ds, .tuple [] => some (.bool ds.isEmpty)
  | .dict [], .str _ => some (.bool false)
  | .dict ((.str _, _) :: _), .str _ => some (.bool false)
  | _, _ => none
def eqP (x y : PD) : Option PD := if SeqAt.shaped x = true ∧ SeqAt.shaped y = true then some (.bool (PyData.eqv x y)) else eqE x y
def rEqX (K : PySem.W.Frag) : R2 := fun x y H Q => rEqD K x y H Q ∨ (∃ a b xs, x = .ref a ∧ y = .ref b ∧ SqT K H a xs ∧ SqT K H b [] ∧ Q (.bl xs.isEmpty) H) ∨ ∃ a kvs t, x = .ref a ∧ y = .str t ∧ H a = some (.dK kvs) ∧ Q (.bl false) H
theorem op_eqX {X : Cx} (hu : X.A.units + 64 < cLine) : OpR X (compareOp .Eq) (rEqX X.K) := by
  intro pins s σ H x y v u Q I rx ry h
  rcases h with h | ⟨a, b, xs, rfl, rfl, ha, hb, q⟩ | ⟨a, kvs, t, rfl, rfl, ha, q⟩
  · exact op_eqD hu pins s σ H x y v u Q I rx ry h
  · cases rx
    cases ry
    obtain ⟨its, rv, ht, _⟩ := I.tuple ha
    obtain ⟨its2, rv2, ht2, _⟩ := I.tuple hb
    cases rv2
    refine SeqAt.RcAt.tuples (e := fun _ => true) ht ht2 (by omega) (fun j _ h2 => absurd h2 (by simp)) X.prog X.w X.xe _ ⟨.bl _, H, I, ?_, q⟩
    show Value.bool _ = Value.bool _
    cases rv with
    | nil => rfl
    | cons h t => simp
  · cases rx
    obtain ⟨tk, rfl⟩ := ry
    obtain ⟨_, _, vs, _, o, es, ep, h1, h2, h3, _⟩ := dk_of I.hok ha
    obtain ⟨cls, dd, data, sl⟩ := o
    obtain ⟨c1, c2, c3⟩ := h2
    simp only at c1 h3
    subst c1 h3
    exact dct_str t tk h1 (by omega) X.prog X.w X.xe _ ⟨.bl false, H, I, rfl, q⟩
def neP (x y : PD) : Option PD := if SeqAt.shaped x = true ∧ SeqAt.shaped y = true then some (.bool (!PyData.eqv x y)) else none
theorem nodict {d : PD} (h : SeqAt.shaped d = true) : d.hasDict = false := by
  unfold SeqAt.shaped at h
  rw [Bool.and_eq_true] at h
  exact PyData.hasDict_of_canLay d h.1
theorem so_eq : SO (rEqX K) eqP := fun x y z h S H vx vy al rx ry Q q => by
  unfold eqP at h
  by_cases c : SeqAt.shaped x = true ∧ SeqAt.shaped y = true
  · rw [if_pos c] at h
    cases h
    exact .inl ⟨x, y, (rx.ex hid_le).dp (nodict c.1), (ry.ex hid_le).dp (nodict c.2), c.1, c.2, q _ H (Ex.refl H) (.bl _)⟩
  · rw [if_neg c] at h
    unfold eqE at h
    split at h
    · cases h
      cases rx with
      | @tup a o xs _ hx _ ra =>
        cases ry with
        | @tup b o2 ys ds2 hy _ rb =>
          cases rb
          have qq := q (.bl xs.isEmpty) H (Ex.refl H)
          refine .inr (.inl ⟨a, b, xs, rfl, rfl, .inl (.inr ⟨_, hid_le _ _ hx⟩), .inl (.inr ⟨_, hid_le _ _ hy⟩), qq ?_⟩)
          cases ra with
          | nil => exact .bl _
          | cons _ _ => exact .bl _
    · cases h
      cases ry
      cases rx with
      | dct hx _ _ _ => exact .inr (.inr ⟨_, _, _, rfl, rfl, hid_le _ _ hx, q _ H (Ex.refl H) (.bl _)⟩)
    · cases h
      cases ry
      cases rx with
      | dct hx _ _ _ => exact .inr (.inr ⟨_, _, _, rfl, rfl, hid_le _ _ hx, q _ H (Ex.refl H) (.bl _)⟩)
    · cases h
theorem so_ne : SO (rNeD K) neP := fun x y z h S H vx vy al rx ry Q q => by
  unfold neP at h
  by_cases c : SeqAt.shaped x = true ∧ SeqAt.shaped y = true
  · rw [if_pos c] at h
    cases h
    exact ⟨x, y, (rx.ex hid_le).dp (nodict c.1), (ry.ex hid_le).dp (nodict c.2), c.1, c.2, q _ H (Ex.refl H) (.bl _)⟩
  · rw [if_neg c] at h; cases h
def isNone : PD → Bool
  | .none => true
  | _ => false
def ixP : PD → PD → Option PD
  | .tuple ds, .int i => atI ds i
  | .list ds, .int i => atI ds i
  | .dict [(.none, .list ds)], .int i => atI ds i
  | _, _ => none
theorem so_ix : SO (rIx K) ixP := fun x y z h S H vx vy al rx ry Q q => by
  cases rx with
  | lst ha ra =>
    cases ry with
    | int i =>
      obtain ⟨v, h1, h2⟩ := ra.at h
      exact .inl ⟨_, _, i, v, rfl, rfl, .inl (.inl (hid_le _ _ ha)), h1, q v H (Ex.refl H) h2⟩
    | _ => cases h
  | tup ha _ ra =>
    cases ry with
    | int i =>
      obtain ⟨v, h1, h2⟩ := ra.at h
      exact .inr (.inl ⟨_, _, i, v, rfl, rfl, .inl (.inr ⟨_, hid_le _ _ ha⟩), h1, q v H (Ex.refl H) h2⟩)
    | _ => cases h
  | scr hs ra =>
    cases ry with
    | int i =>
      obtain ⟨v, h1, h2⟩ := ra.at h
      exact .inl ⟨_, _, i, v, rfl, rfl, sqx hid_le hs, h1, q v H (Ex.refl H) h2⟩
    | _ => cases h
  | dct _ _ hp _ => rcases zip_str hp with e | ⟨k, d, r, e⟩ <;> (subst e; cases h)
  | _ => cases h
end
end Uv

namespace Uv
open PySem PySem.Spec PyProof.Rows L2
open Evl (Ex)
variable [kk : KK]
section
def on1 (f : PD → Option PD) : List PD → Option PD
  | [x] => f x
  | _ => none
theorem on1_eq {f : PD → Option PD} {xs : List PD} {z : PD} (h : on1 f xs = some z) : ∃ x, xs = [x] ∧ f x = some z := by
  match xs, h with
  | [x], h => exact ⟨x, rfl, h⟩
  | [], h => cases h
  | _ :: _ :: _, h => cases h
theorem sc_on1 {r : List V → Hp → VK → Prop} {f : PD → Option PD} (hf : ∀ x z, f x = some z → ∀ S H v, Al S H → Rp (hid S H) v x → ∀ Q : VK, (∀ v H2, Ex H H2 → Rp (hid S H2) v z → Q v H2) → r [v] H Q) : SC r (on1 f) := fun xs z h S H vs al rv Q q => by
  obtain ⟨x, rfl, h⟩ := on1_eq h
  cases rv with
  | cons h1 t => cases t; exact hf x z h S H _ al h1 Q q
def rLenQ (K : PySem.W.Frag) : List V → Hp → VK → Prop := fun xs H Q => ∃ p ys, xs = [.ref p] ∧ (SqL K H p ys ∨ SqT K H p ys) ∧ Q (.int ys.length) H
def lenP : PD → Option PD
  | .list ds => some (.int (ds.length : Nat))
  | .tuple ds => some (.int (ds.length : Nat))
  | .dict [(.none, .list ds)] => some (.int (ds.length : Nat))
  | _ => none
theorem sc_len : SC (rLenQ K) (on1 lenP) := sc_on1 fun x z h S H v al rv Q q => by
  cases rv with
  | lst ha ra => cases h; exact ⟨_, _, rfl, .inl (.inl (.inl (hid_le _ _ ha))), q _ H (Ex.refl H) (ra.length ▸ .int _)⟩
  | tup ha _ ra => cases h; exact ⟨_, _, rfl, .inr (.inl (.inr ⟨_, hid_le _ _ ha⟩)), q _ H (Ex.refl H) (ra.length ▸ .int _)⟩
  | scr hs ra => cases h; exact ⟨_, _, rfl, .inl (sqx hid_le hs), q _ H (Ex.refl H) (ra.length ▸ .int _)⟩
  | dct _ _ hp _ => rcases zip_str hp with e | ⟨k, d, r, e⟩ <;> (subst e; cases h)
  | _ => cases h
def absP : PD → Option PD
  | .int i => some (.int (if i < 0 then -i else i))
  | _ => none
theorem sc_abs : SC rAbsQ (on1 absP) := sc_on1 fun x z h S H v al rv Q q => by
  cases rv with
  | int i => cases h; exact ⟨i, rfl, q _ H (Ex.refl H) (.int _)⟩
  | _ => cases h
def full : PD → Bool
  | .dict ((.none, _) :: _) => true
  | _ => false
inductive Ty | int | bool | str | list | tuple | dict
def isTy : Ty → PD → Bool
  | .int, .int _ => true
  | .int, .bool _ => true
  | .bool, .bool _ => true
  | .str, .str _ => true
  | .list, .list _ => true
  | .tuple, .tuple _ => true
  | .dict, .dict _ => true
  | _, _ => false
def xIsi (t : Ty) (a : XE) : XE := fun ρ => (a ρ).bind fun d => if full d = true then none else some (.bool (isTy t d))
def rRepr (K : PySem.W.Frag) : List V → Hp → VK → Prop := fun vs H Q => ∃ v d, vs = [v] ∧ Rp H v d ∧ d.showable = true ∧ scrF d = true ∧ d.depth ≤ 60 ∧ d.shown.length ≤ sizeLine ∧ Q (.str d.shown) H
theorem cr_repr {X : Cx} (hg : X.A.guards = some []) (hu : X.A.units + 65 < cLine) : CallR X (.builtin "repr") (rRepr X.K) := by
  intro pins s σ H vs us Q I r h
  obtain ⟨v, d, rfl, hd, sh, nd, dp, sz, q⟩ := h
  obtain ⟨u, rfl, ru⟩ : ∃ u, us = [u] ∧ RelV v u := by
    cases r with
    | cons p t => cases t; exact ⟨_, rfl, p⟩
  have rd := Rp.rm I hd nd ru
  have fin : ∀ h' tk t, (∀ b o, s.heap.get? b = some o → h'.get? b = some o) → ∃ v H', L2.Inv X pins σ H' { s with heap := h', toks := tk } ∧ RelV v (.str d.shown t) ∧ Q v H' := fun h' tk t hk => ⟨.str _, H, I.kept hk, ⟨_, rfl⟩, q⟩
  cases rd with
  | non => exact P.repr_of_none (fin s.heap _ _ fun _ _ e => e)
  | bl b => exact P.repr_of_bool (by cases b <;> exact fin s.heap _ _ fun _ _ e => e)
  | int i t => exact P.repr_of_int (by simpa [PyData.showable] using sh) (fin s.heap _ _ fun _ _ e => e)
  | str x t => exact P.repr_of_str (fin s.heap _ _ fun _ _ e => e) sz
  | lst h1 h2 h3 h4 => exact Rm.repr (.lst h1 h2 h3 h4) sh hg (by omega) (fun h' u tk hk => fin h' tk u hk) sz
  | tup h1 h2 h3 h4 => exact Rm.repr (.tup h1 h2 h3 h4) sh hg (by omega) (fun h' u tk hk => fin h' tk u hk) sz
  | dct h1 h2 h3 h4 h5 h6 => exact Rm.repr (.dct h1 h2 h3 h4 h5 h6) sh hg (by omega) (fun h' u tk hk => fin h' tk u hk) sz
def CanShow (d : PD) : Prop := d.showable = true ∧ scrF d = true ∧ d.depth ≤ 60 ∧ d.shown.length ≤ sizeLine
instance {d : PD} : Decidable (CanShow d) := inferInstanceAs (Decidable (_ ∧ _))
def reprP (d : PD) : Option PD := if CanShow d then some (.str d.shown) else none
theorem sc_repr : SC (rRepr K) (on1 reprP) := sc_on1 fun x z h S H v al rv Q q => by
  unfold reprP at h
  by_cases c : CanShow x
  · rw [if_pos c] at h
    cases h
    exact ⟨v, x, rfl, rv.ex hid_le, c.1, c.2.1, c.2.2.1, c.2.2.2, q _ H (Ex.refl H) (.str _)⟩
  · rw [if_neg c] at h; cases h
end
end Uv

namespace Uv
open PySem PySem.Spec PyProof.Rows L2
open Evl (Ex)
variable [kk : KK]
structure HS where
  ws : List PD
  st : List PD
  bz : Bool
  lg : List PD
def HS.pd (h : HS) : PD := hallD h.ws h.st h.bz h.lg
inductive Cel | dat (d : PD) | sub (ds : List PD) | hal (h : HS)
def Cel.pd : Cel → PD
  | .dat d => d
  | .sub ds => .list ds
  | .hal h => h.pd
inductive Sl | un | dat (d : PD) | own (cs : List Cel) | dic (kvs : List (Int × PD)) | hal (k : Nat) (h : HS)
abbrev Pn := Nat → Option V
def pn0 : Pn := fun _ => none
def pn1 (v : V) : Pn := fun i => if i = 0 then some v else none
abbrev Env := List Sl
def Sl.vw : Sl → Option PD
  | .un => none
  | .dat d => some d
  | .own cs => some (.list (cs.map Cel.pd))
  | .dic _ => none
  | .hal _ h => some h.pd
def Sl.mk : Sl → Option PD
  | .dat d => some d
  | _ => none
def vw (ρ : Env) : VE := ρ.map Sl.vw
def mk (ρ : Env) : VE := ρ.map Sl.mk
abbrev Trs := Nat → List Addr
def SF (F : Hs) (T : Trs) : Hs := fun x => F x ∨ ∃ i, x ∈ T i
def FL (F : Hs) (L : List Addr) : Hs := fun x => F x ∨ x ∈ L
def Hal (G H : Hp) (v : V) (h : HS) (A : List Addr) : Prop := ∃ (a dx l : Addr) (w s : V) (lv : List V), v = .ref a ∧ H a = some (.ins kk.hall dx (hallF w s h.bz l)) ∧ H dx = some (.own a) ∧ H l = some (.lst lv) ∧ Rp G w (.tuple h.ws) ∧ Rp G s (.tuple h.st) ∧ RpAll G lv h.lg ∧ A = [a, dx, l]
theorem Hal.mv {G G' H H' : Hp} (e : Ex G G') {v : V} {h : HS} {A : List Addr} (k : ∀ x ∈ A, H' x = H x) (o : Hal G H v h A) : Hal G' H' v h A := by
  obtain ⟨a, dx, l, w, s, lv, rfl, h1, h2, h3, h4, h5, h6, rfl⟩ := o
  exact ⟨a, dx, l, w, s, lv, rfl, (k a (by simp)).trans h1, (k dx (by simp)).trans h2, (k l (by simp)).trans h3, h4.ex e, h5.ex e, h6.ex e, rfl⟩
theorem Hal.nfz {G H : Hp} {v : V} {h : HS} {A : List Addr} (o : Hal G H v h A) : ∀ x ∈ A, ∃ ob, H x = some ob ∧ ∀ o u, ob ≠ .frz o u := fun x hx => by
  obtain ⟨a, dx, l, w, s, lv, rfl, h1, h2, h3, h4, h5, h6, rfl⟩ := o
  simp only [List.mem_cons, List.not_mem_nil, or_false] at hx
  rcases hx with rfl | rfl | rfl
  · exact ⟨_, h1, fun o u z => nomatch z⟩
  · exact ⟨_, h2, fun o u z => nomatch z⟩
  · exact ⟨_, h3, fun o u z => nomatch z⟩
theorem Hal.rp {G G' H : Hp} (e : Ex G G') {v : V} {h : HS} {A : List Addr} (hs : ∀ x ∈ A, G' x = H x) (o : Hal G H v h A) : Rp G' v h.pd := by
  obtain ⟨a, dx, l, w, s, lv, rfl, h1, h2, h3, h4, h5, h6, rfl⟩ := o
  exact .hal ((hs a (by simp)).trans h1) ((hs l (by simp)).trans h3) (h4.ex e) (h5.ex e) (h6.ex e)
def LO : HO → Prop
  | .lst _ => True
  | .ins _ _ _ => True
  | .own _ => True
  | _ => False
theorem Hal.lo {G H : Hp} {v : V} {h : HS} {A : List Addr} (o : Hal G H v h A) : ∀ x ∈ A, ∃ ob, H x = some ob ∧ LO ob := fun x hx => by
  obtain ⟨a, dx, l, w, s, lv, rfl, h1, h2, h3, h4, h5, h6, rfl⟩ := o
  simp only [List.mem_cons, List.not_mem_nil, or_false] at hx
  rcases hx with rfl | rfl | rfl
  · exact ⟨_, h1, trivial⟩
  · exact ⟨_, h2, trivial⟩
  · exact ⟨_, h3, trivial⟩
inductive Cels (G H : Hp) : List V → List Cel → List Addr → Prop
  | nil : Cels G H [] [] []
  | dat {v : V} {d : PD} {vs : List V} {cs : List Cel} {B : List Addr} : Rp G v d → Cels G H vs cs B → Cels G H (v :: vs) (.dat d :: cs) B
  | sub {b : Addr} {ws : List V} {ds : List PD} {vs : List V} {cs : List Cel} {B : List Addr} : H b = some (.lst ws) → RpAll G ws ds → Cels G H vs cs B → Cels G H (.ref b :: vs) (.sub ds :: cs) (b :: B)
  | hal {h : HS} {A : List Addr} {v : V} {vs : List V} {cs : List Cel} {B : List Addr} : Hal G H v h A → Cels G H vs cs B → Cels G H (v :: vs) (.hal h :: cs) (A ++ B)
def Own (G H : Hp) (v : V) (cs : List Cel) (A : List Addr) : Prop := ∃ a vs B, v = .ref a ∧ H a = some (.lst vs) ∧ Cels G H vs cs B ∧ A = a :: B
inductive Kvs (G : Hp) : List (Key × V) → List (Int × PD) → Prop
  | nil : Kvs G [] []
  | cons {k : Int} {v : V} {d : PD} {ks : List (Key × V)} {l : List (Int × PD)} : Rp G v d → Kvs G ks l → Kvs G ((.inl k, v) :: ks) ((k, d) :: l)
theorem Kvs.ex {G G' : Hp} (e : Ex G G') : ∀ {ks : List (Key × V)} {l : List (Int × PD)}, Kvs G ks l → Kvs G' ks l
  | _, _, .nil => .nil
  | _, _, .cons r c => .cons (r.ex e) (c.ex e)
def Dc (G H : Hp) (v : V) (l : List (Int × PD)) (A : List Addr) : Prop := ∃ a ks, v = .ref a ∧ H a = some (.dK ks) ∧ Kvs G ks l ∧ A = [a]
theorem Dc.mv {G G' H H' : Hp} (e : Ex G G') {v : V} {l : List (Int × PD)} {A : List Addr} (h : ∀ x ∈ A, H' x = H x) (o : Dc G H v l A) : Dc G' H' v l A := by
  obtain ⟨a, ks, rfl, ha, c, rfl⟩ := o
  exact ⟨a, ks, rfl, (h a (List.mem_cons_self ..)).trans ha, c.ex e, rfl⟩
def SlOk (pn : Pn) (G H : Hp) (o : Option V) (s : Sl) (A : List Addr) : Prop := match s with
  | .un => A = []
  | .dat d => A = [] ∧ ∃ v, o = some v ∧ Rp G v d
  | .own cs => ∃ v, o = some v ∧ Own G H v cs A
  | .dic l => ∃ v, o = some v ∧ Dc G H v l A
  | .hal k h => ∃ v, o = some v ∧ Hal G H v h A ∧ ∀ v0, pn k = some v0 → k < 1000 → v = v0
structure StOk (pn : Pn) (F : Hs) (T : Trs) (H : Hp) (σ : L2.St) (ρ : Env) : Prop where
  len : σ.length = ρ.length
  al : Al F H
  off : ∀ i x, x ∈ T i → ¬ F x
  dis : ∀ i j x, x ∈ T i → x ∈ T j → i = j
  nd : ∀ i, (T i).Nodup
  out : ∀ i, ρ.length ≤ i → T i = []
  sl : ∀ i s, ρ[i]? = some s → ∃ o, σ[i]? = some o ∧ SlOk pn (hid (SF F T) H) H o s (T i)
  pin : ∀ v, pn 0 = some v → σ[0]? = some (some v)
structure Stp (F : Hs) (T : Trs) (H : Hp) (T' : Trs) (H' : Hp) : Prop where
  fr : ∀ x, F x → H' x = H x
  vis : Ex (hid (SF F T) H) (hid (SF F T') H')
section
variable {pn : Pn} {F : Hs} {T T' T'' : Trs} {G G' H H' H'' : Hp} {σ : L2.St} {ρ : Env}
theorem Stp.refl : Stp F T H T H := ⟨fun _ _ => rfl, Ex.refl _⟩
theorem Stp.trans (a : Stp F T H T' H') (b : Stp F T' H' T'' H'') : Stp F T H T'' H'' := ⟨fun x h => (b.fr x h).trans (a.fr x h), a.vis.trans b.vis⟩
theorem Stp.ex (al : Al F H) (e : Ex H H') : Stp F T H T H' := ⟨fun x h => by
  cases q : H x with
  | none => exact absurd q (al x h)
  | some o => exact e x o q, hid_ex e⟩
theorem Cels.mv (e : Ex G G') : ∀ {vs : List V} {cs : List Cel} {B : List Addr}, (∀ x ∈ B, H' x = H x) → Cels G H vs cs B → Cels G' H' vs cs B
  | _, _, _, _, .nil => .nil
  | _, _, _, h, .dat r c => .dat (r.ex e) (Cels.mv e h c)
  | _, _, _, h, .sub hb r c => .sub ((h _ (List.mem_cons_self ..)).trans hb) (r.ex e) (Cels.mv e (fun x hx => h x (List.mem_cons_of_mem _ hx)) c)
  | _, _, _, h, .hal o c => .hal (o.mv e fun x hx => h x (List.mem_append_left _ hx)) (Cels.mv e (fun x hx => h x (List.mem_append_right _ hx)) c)
theorem Own.mv (e : Ex G G') {v : V} {cs : List Cel} {A : List Addr} (h : ∀ x ∈ A, H' x = H x) (o : Own G H v cs A) : Own G' H' v cs A := by
  obtain ⟨a, vs, B, rfl, ha, c, rfl⟩ := o
  exact ⟨a, vs, B, rfl, (h a (List.mem_cons_self ..)).trans ha, c.mv e fun x hx => h x (List.mem_cons_of_mem _ hx), rfl⟩
theorem SlOk.mv (e : Ex G G') {o : Option V} {s : Sl} {A : List Addr} (h : ∀ x ∈ A, H' x = H x) (q : SlOk pn G H o s A) : SlOk pn G' H' o s A := by
  cases s with
  | un => exact q
  | dat d => obtain ⟨z, v, e1, r⟩ := q; exact ⟨z, v, e1, r.ex e⟩
  | own cs => obtain ⟨v, e1, r⟩ := q; exact ⟨v, e1, r.mv e h⟩
  | dic l => obtain ⟨v, e1, r⟩ := q; exact ⟨v, e1, r.mv e h⟩
  | hal k l => obtain ⟨v, e1, r, p⟩ := q; exact ⟨v, e1, r.mv e h, p⟩
theorem Cels.lst : ∀ {vs : List V} {cs : List Cel} {B : List Addr}, Cels G H vs cs B → ∀ x ∈ B, ∃ ob, H x = some ob ∧ LO ob
  | _, _, _, .nil, x, h => nomatch h
  | _, _, _, .dat _ c, x, h => c.lst x h
  | _, _, _, .sub hb _ c, x, h => by
    rcases List.mem_cons.mp h with z | z
    · subst z; exact ⟨_, hb, trivial⟩
    · exact c.lst x z
  | _, _, _, .hal o c, x, h => by
    rcases List.mem_append.mp h with z | z
    · exact o.lo x z
    · exact c.lst x z
theorem Own.lst {v : V} {cs : List Cel} {A : List Addr} (o : Own G H v cs A) : ∀ x ∈ A, ∃ ob, H x = some ob ∧ LO ob := fun x h => by
  obtain ⟨a, vs, B, rfl, ha, c, rfl⟩ := o
  rcases List.mem_cons.mp h with z | z
  · subst z; exact ⟨_, ha, trivial⟩
  · exact c.lst x z
theorem Cels.length : ∀ {vs : List V} {cs : List Cel} {B : List Addr}, Cels G H vs cs B → vs.length = cs.length
  | _, _, _, .nil => rfl
  | _, _, _, .dat _ c => by rw [List.length_cons, List.length_cons, c.length]
  | _, _, _, .sub _ _ c => by rw [List.length_cons, List.length_cons, c.length]
  | _, _, _, .hal _ c => by rw [List.length_cons, List.length_cons, c.length]
theorem Cels.rp (e : Ex G G') (hs : ∀ x ∈ B, G' x = H x) : ∀ {vs : List V} {cs : List Cel}, Cels G H vs cs B → RpAll G' vs (cs.map Cel.pd)
  | _, _, .nil => .nil
  | _, _, .dat r c => .cons (r.ex e) (c.rp e hs)
  | _, _, .sub hb r c => .cons (.lst ((hs _ (List.mem_cons_self ..)).trans hb) (r.ex e)) (c.rp e fun x hx => hs x (List.mem_cons_of_mem _ hx))
  | _, _, .hal o c => .cons (o.rp e fun x hx => hs x (List.mem_append_left _ hx)) (c.rp e fun x hx => hs x (List.mem_append_right _ hx))
theorem Own.rp (e : Ex G G') {v : V} {cs : List Cel} {A : List Addr} (hs : ∀ x ∈ A, G' x = H x) (o : Own G H v cs A) : Rp G' v (.list (cs.map Cel.pd)) := by
  obtain ⟨a, vs, B, rfl, ha, c, rfl⟩ := o
  exact .lst ((hs a (List.mem_cons_self ..)).trans ha) (c.rp e fun x hx => hs x (List.mem_cons_of_mem _ hx))
theorem StOk.lst (st : StOk pn F T H σ ρ) {i : Nat} {x : Addr} (h : x ∈ T i) : ∃ ob, H x = some ob ∧ ∀ o u, ob ≠ .frz o u := by
  by_cases c : i < ρ.length
  · obtain ⟨o, _, q⟩ := st.sl i _ (List.getElem?_eq_getElem c)
    cases e : ρ[i] with
    | un => rw [e] at q; rw [show T i = [] from q] at h; cases h
    | dat d => rw [e] at q; rw [q.1] at h; cases h
    | own cs => rw [e] at q; obtain ⟨v, _, q⟩ := q; obtain ⟨ob, g, lo⟩ := q.lst x h; exact ⟨_, g, fun o u z => by rw [z] at lo; exact lo⟩
    | dic l =>
      rw [e] at q
      obtain ⟨v, _, a, ks, _, ha, _, hA⟩ := q
      rw [hA] at h
      have : x = a := by simpa using h
      rw [this]
      exact ⟨_, ha, fun o u z => nomatch z⟩
    | hal k l => rw [e] at q; obtain ⟨v, _, q, _⟩ := q; exact q.nfz x h
  · rw [st.out i (by omega)] at h; cases h
theorem StOk.als (st : StOk pn F T H σ ρ) : Al (SF F T) H := fun x h z => h.elim (fun h => st.al x h z) fun ⟨i, h⟩ => by
  obtain ⟨vs, e, _⟩ := st.lst h
  rw [z] at e
  cases e
theorem StOk.mv (st : StOk pn F T H σ ρ) (e : Ex (hid (SF F T) H) (hid (SF F T) H')) (h : ∀ i x, x ∈ T i → H' x = H x) (al : Al F H') : StOk pn F T H' σ ρ :=
  ⟨st.len, al, st.off, st.dis, st.nd, st.out, fun i s hi => let ⟨o, h1, h2⟩ := st.sl i s hi; ⟨o, h1, h2.mv e (h i)⟩, st.pin⟩
theorem StOk.ex (st : StOk pn F T H σ ρ) (e : Ex H H') : StOk pn F T H' σ ρ := st.mv (hid_ex e) (fun i x hx => by
  obtain ⟨vs, q, _⟩ := st.lst hx
  rw [q, e x _ q]) (st.al.ex e)
theorem StOk.vw (st : StOk pn F T H σ ρ) : En (hid F H) σ (vw ρ) := by
  refine ⟨by rw [st.len]; unfold Uv.vw; rw [List.length_map], fun i d hi => ?_⟩
  unfold Uv.vw at hi
  rw [List.getElem?_map] at hi
  cases q : ρ[i]? with
  | none => rw [q] at hi; cases hi
  | some s =>
    rw [q] at hi
    have hi : s.vw = some d := Option.some.inj hi
    obtain ⟨o, h1, h2⟩ := st.sl i s q
    cases s with
    | un => cases hi
    | dat d' =>
      cases hi
      obtain ⟨_, v, rfl, r⟩ := h2
      exact ⟨v, h1, r.ex (hid_sub fun x h => .inl h)⟩
    | own cs =>
      cases hi
      obtain ⟨v, rfl, r⟩ := h2
      exact ⟨v, h1, r.rp (hid_sub fun x h => .inl h) fun x hx => hid_out (st.off i x hx)⟩
    | dic l => cases hi
    | hal k l =>
      cases hi
      obtain ⟨v, rfl, r, _⟩ := h2
      exact ⟨v, h1, r.rp (hid_sub fun x h => .inl h) fun x hx => hid_out (st.off i x hx)⟩
theorem StOk.mkd (st : StOk pn F T H σ ρ) : En (hid (SF F T) H) σ (Uv.mk ρ) := by
  refine ⟨by rw [st.len]; unfold Uv.mk; rw [List.length_map], fun i d hi => ?_⟩
  unfold Uv.mk at hi
  rw [List.getElem?_map] at hi
  cases q : ρ[i]? with
  | none => rw [q] at hi; cases hi
  | some s =>
    rw [q] at hi
    have hi : s.mk = some d := Option.some.inj hi
    obtain ⟨o, h1, h2⟩ := st.sl i s q
    cases s with
    | dat d' =>
      cases hi
      obtain ⟨_, v, rfl, r⟩ := h2
      exact ⟨v, h1, r⟩
    | _ => cases hi
def setT (T : Trs) (i : Nat) (A : List Addr) : Trs := fun j => if j = i then A else T j
theorem setT_same {i : Nat} {A : List Addr} : setT T i A i = A := if_pos rfl
theorem setT_ne {i j : Nat} {A : List Addr} (h : j ≠ i) : setT T i A j = T j := if_neg h
theorem SF_setT_nil {i : Nat} : ∀ x, SF F (setT T i []) x → SF F T x := fun x h => h.elim .inl fun ⟨j, hj⟩ => .inr (by
  by_cases c : j = i
  · subst c; rw [setT_same] at hj; cases hj
  · rw [setT_ne c] at hj; exact ⟨j, hj⟩)
theorem StOk.drop (st : StOk pn F T H σ ρ) {i : Nat} {o : Option V} {s : Sl} (hi0 : i ≠ 0) (hs : SlOk pn (hid (SF F (setT T i [])) H) H o s []) : StOk pn F (setT T i []) H (σ.set i o) (ρ.set i s) ∧ Stp F T H (setT T i []) H := by
  have sub : Ex (hid (SF F T) H) (hid (SF F (setT T i [])) H) := hid_sub SF_setT_nil
  have mem : ∀ j x, x ∈ setT T i [] j → x ∈ T j ∧ j ≠ i := fun j x h => by
    by_cases c : j = i
    · subst c; rw [setT_same] at h; cases h
    · rw [setT_ne c] at h; exact ⟨h, c⟩
  refine ⟨⟨by rw [List.length_set, List.length_set]; exact st.len, st.al, fun j x h => st.off j x (mem j x h).1, fun j k x h h' => st.dis j k x (mem j x h).1 (mem k x h').1, fun j => ?_, fun j hj => ?_, fun j q hq => ?_, fun v hv => ?_⟩, ⟨fun _ _ => rfl, sub⟩⟩
  · by_cases c : j = i
    · subst c; rw [setT_same]; exact List.nodup_nil
    · rw [setT_ne c]; exact st.nd j
  · rw [List.length_set] at hj
    by_cases c : j = i
    · subst c; rw [setT_same]
    · rw [setT_ne c]; exact st.out j hj
  · by_cases c : i = j
    · subst c
      have hl : i < ρ.length := by
        have := (List.getElem?_eq_some_iff.mp hq).1
        simpa using this
      rw [List.getElem?_set_self hl] at hq
      cases hq
      rw [setT_same]
      exact ⟨o, List.getElem?_set_self (by rw [st.len]; exact hl), hs⟩
    · rw [List.getElem?_set_ne c] at hq
      obtain ⟨o', h1, h2⟩ := st.sl j q hq
      rw [List.getElem?_set_ne c, setT_ne (fun z => c z.symm)]
      exact ⟨o', h1, h2.mv sub fun _ _ => rfl⟩
  · rw [List.getElem?_set_ne hi0]
    exact st.pin v hv
theorem StOk.set (st : StOk pn F T H σ ρ) {i : Nat} (hi0 : i ≠ 0) {v : V} {d : PD} (r : Rp (hid (SF F T) H) v d) : StOk pn F (setT T i []) H (σ.set i (some v)) (ρ.set i (.dat d)) ∧ Stp F T H (setT T i []) H :=
  st.drop hi0 ⟨rfl, v, rfl, r.ex (hid_sub SF_setT_nil)⟩
theorem StOk.ownG {A : List Addr} (st : StOk pn (FL F A) T H σ ρ) {i : Nat} (hi0 : i ≠ 0) (hi : i < ρ.length) {v : V} {s0 : Sl} (o : ∀ G', Ex (hid (SF (FL F A) T) H) G' → SlOk pn G' H (some v) s0 A) (nd : A.Nodup) (off : ∀ x ∈ A, ¬ F x) :
    StOk pn F (setT T i A) H (σ.set i (some v)) (ρ.set i s0) ∧ Ex (hid (SF (FL F A) T) H) (hid (SF F (setT T i A)) H) := by
  have sub : Ex (hid (SF (FL F A) T) H) (hid (SF F (setT T i A)) H) := hid_sub fun x h => h.elim (fun h => .inl (.inl h)) fun ⟨j, hj⟩ => by
    by_cases c : j = i
    · subst c; rw [setT_same] at hj; exact .inl (.inr hj)
    · rw [setT_ne c] at hj; exact .inr ⟨j, hj⟩
  have mem : ∀ j x, x ∈ setT T i A j → (j = i ∧ x ∈ A) ∨ (j ≠ i ∧ x ∈ T j) := fun j x h => by
    by_cases c : j = i
    · subst c; rw [setT_same] at h; exact .inl ⟨rfl, h⟩
    · rw [setT_ne c] at h; exact .inr ⟨c, h⟩
  refine ⟨⟨by rw [List.length_set, List.length_set]; exact st.len, fun x h => st.al x (.inl h), fun j x h => ?_, fun j k x h h' => ?_, fun j => ?_, fun j hj => ?_, fun j q hq => ?_, fun v hv => ?_⟩, sub⟩
  · rcases mem j x h with ⟨_, h⟩ | ⟨_, h⟩
    · exact off x h
    · exact fun z => st.off j x h (.inl z)
  · rcases mem j x h with ⟨e, h⟩ | ⟨e, h⟩
    · rcases mem k x h' with ⟨e', h'⟩ | ⟨e', h'⟩
      · rw [e, e']
      · exact absurd (.inr h) (st.off k x h')
    · rcases mem k x h' with ⟨e', h'⟩ | ⟨e', h'⟩
      · exact absurd (.inr h') (st.off j x h)
      · exact st.dis j k x h h'
  · by_cases c : j = i
    · subst c; rw [setT_same]; exact nd
    · rw [setT_ne c]; exact st.nd j
  · rw [List.length_set] at hj
    rw [setT_ne (by omega)]
    exact st.out j hj
  · by_cases c : i = j
    · subst c
      rw [List.getElem?_set_self hi] at hq
      cases hq
      rw [setT_same]
      exact ⟨some v, List.getElem?_set_self (by rw [st.len]; exact hi), o _ sub⟩
    · rw [List.getElem?_set_ne c] at hq
      obtain ⟨o', h1, h2⟩ := st.sl j q hq
      rw [List.getElem?_set_ne c, setT_ne (fun z => c z.symm)]
      exact ⟨o', h1, h2.mv sub fun _ _ => rfl⟩
  · rw [List.getElem?_set_ne hi0]
    exact st.pin v hv
theorem StOk.own {A : List Addr} (st : StOk pn (FL F A) T H σ ρ) {i : Nat} (hi0 : i ≠ 0) (hi : i < ρ.length) {v : V} {cs : List Cel} (o : Own (hid (SF (FL F A) T) H) H v cs A) (nd : A.Nodup) (off : ∀ x ∈ A, ¬ F x) :
    StOk pn F (setT T i A) H (σ.set i (some v)) (ρ.set i (.own cs)) ∧ Ex (hid (SF (FL F A) T) H) (hid (SF F (setT T i A)) H) :=
  st.ownG hi0 hi (fun G' e => ⟨v, rfl, o.mv e fun _ _ => rfl⟩) nd off
theorem StOk.halN {A : List Addr} (st : StOk pn (FL F A) T H σ ρ) {i k : Nat} (hi0 : i ≠ 0) (hi : i < ρ.length) (hk : 1000 ≤ k) {v : V} {h : HS} (o : Hal (hid (SF (FL F A) T) H) H v h A) (nd : A.Nodup) (off : ∀ x ∈ A, ¬ F x) :
    StOk pn F (setT T i A) H (σ.set i (some v)) (ρ.set i (.hal k h)) ∧ Ex (hid (SF (FL F A) T) H) (hid (SF F (setT T i A)) H) :=
  st.ownG hi0 hi (fun G' e => ⟨v, rfl, o.mv e fun _ _ => rfl, fun v0 _ z => absurd z (by omega)⟩) nd off
theorem StOk.write (st : StOk pn F T H σ ρ) {i : Nat} {cs cs' : List Cel} {a : Addr} {vs' : List V} {B : List Addr} (hi : ρ[i]? = some (.own cs)) (hT : T i = a :: B) (hσ : σ[i]? = some (some (.ref a))) (hc : Cels (hid (SF F T) H) H vs' cs' B) :
    StOk pn F T (upd H a (.lst vs')) σ (ρ.set i (.own cs')) ∧ Stp F T H T (upd H a (.lst vs')) := by
  have ha : a ∈ T i := by rw [hT]; exact List.mem_cons_self ..
  have hab : a ∉ B := by have := st.nd i; rw [hT] at this; exact (List.nodup_cons.mp this).1
  have hS : SF F T a := .inr ⟨i, ha⟩
  have vis : Ex (hid (SF F T) H) (hid (SF F T) (upd H a (.lst vs'))) := fun x o h => by
    obtain ⟨c, h⟩ := hid_some h
    rw [hid_out c, upd_ne (fun z => c (by rw [z]; exact hS))]
    exact h
  have ne : ∀ x, x ≠ a → upd H a (.lst vs') x = H x := fun x h => upd_ne h
  refine ⟨⟨by rw [List.length_set]; exact st.len, fun x h => ?_, st.off, st.dis, st.nd, fun j hj => st.out j (by rw [List.length_set] at hj; exact hj), fun j q hq => ?_, st.pin⟩, ⟨fun x h => ne x fun z => st.off i a ha (by rw [← z]; exact h), vis⟩⟩
  · rw [ne x fun z => st.off i a ha (by rw [← z]; exact h)]
    exact st.al x h
  · by_cases c : i = j
    · subst c
      have hl : i < ρ.length := by
        have := (List.getElem?_eq_some_iff.mp hq).1
        simpa using this
      rw [List.getElem?_set_self hl] at hq
      cases hq
      exact ⟨_, hσ, .ref a, rfl, a, vs', B, rfl, upd_same, hc.mv vis fun x hx => ne x fun z => hab (by rw [← z]; exact hx), hT⟩
    · rw [List.getElem?_set_ne c] at hq
      obtain ⟨o', h1, h2⟩ := st.sl j q hq
      exact ⟨o', h1, h2.mv vis fun x hx => ne x fun z => c (st.dis i j a ha (by rw [← z]; exact hx))⟩
theorem StOk.at_own (st : StOk pn F T H σ ρ) {i : Nat} {cs : List Cel} (hi : ρ[i]? = some (.own cs)) : ∃ a vs B, σ[i]? = some (some (.ref a)) ∧ H a = some (.lst vs) ∧ Cels (hid (SF F T) H) H vs cs B ∧ T i = a :: B := by
  obtain ⟨o, h1, v, rfl, a, vs, B, rfl, h2, h3, h4⟩ := st.sl i _ hi
  exact ⟨a, vs, B, h1, h2, h3, h4⟩
end
mutual
def flat : PD → Bool
  | .none => true
  | .bool _ => true
  | .int _ => true
  | .str _ => true
  | .tuple ds => flats ds
  | .list _ => false
  | .dict _ => false
def flats : List PD → Bool
  | [] => true
  | d :: ds => flat d && flats ds
end
mutual
theorem Rp.flat {G G' : Hp} (e : ∀ x o u, G x = some (.frz o u) → G' x = some (.frz o u)) : ∀ {v : V} {d : PD}, Rp G v d → flat d = true → Rp G' v d
  | _, _, .non, _ => .non
  | _, _, .bl b, _ => .bl b
  | _, _, .int i, _ => .int i
  | _, _, .str x, _ => .str x
  | _, _, .lst h r, f => by simp [Uv.flat] at f
  | _, _, .tup h p r, f => .tup (e _ _ _ h) p (RpAll.flat e r (by simpa [Uv.flat] using f))
  | _, _, .dct _ _ _ _, f => by simp [Uv.flat] at f
  | _, _, .dci _ _ _, f => by simp [Uv.flat] at f
  | _, _, .scr h r, f => by simp [Uv.flat] at f
  | _, _, .exo _ _ _ _, f => by simp [Uv.flat] at f
  | _, _, .«fun» _, f => by simp [Uv.flat] at f
  | _, _, .hal _ _ _ _ _, f => by simp [Uv.flat] at f
theorem RpAll.flat {G G' : Hp} (e : ∀ x o u, G x = some (.frz o u) → G' x = some (.frz o u)) : ∀ {vs : List V} {ds : List PD}, RpAll G vs ds → flats ds = true → RpAll G' vs ds
  | _, _, .nil, _ => .nil
  | _, _, .cons h r, f => by
    simp only [flats, Bool.and_eq_true] at f
    exact .cons (Rp.flat e h f.1) (RpAll.flat e r f.2)
end
theorem StOk.frz {pn : Pn} {F : Hs} {T : Trs} {H H' : Hp} {σ : L2.St} {ρ : Env} (st : StOk pn F T H σ ρ) (e : Ex H H') : ∀ x o u, hid F H' x = some (.frz o u) → hid (SF F T) H' x = some (.frz o u) := fun x o u h => by
  obtain ⟨c, h⟩ := hid_some h
  rw [hid_out]
  · exact h
  · rintro (z | ⟨i, z⟩)
    · exact c z
    · obtain ⟨vs, q, n⟩ := st.lst z
      rw [e x _ q] at h
      exact n _ _ (Option.some.inj h)
end Uv

namespace Uv
open PySem PySem.Spec PyProof.Rows L2
open Evl (Ex)
variable [kk : KK]
abbrev XW := Env → Option (PD × Env)
abbrev XWT := Env → Option (Bool × Env)
abbrev XWA := Env → Option (List PD × Env)
abbrev XWO := Env → Option (List Cel × Env)
def SW (te : TE) (w : XW) : Prop := ∀ pn F T H σ ρ d ρ', StOk pn F T H σ ρ → w ρ = some (d, ρ') → ∀ Q : VK, (∀ v T' H', StOk pn F T' H' σ ρ' → Stp F T H T' H' → Rp (hid (SF F T') H') v d → Q v H') → te σ H Q
def SWT (tt : TT) (w : XWT) : Prop := ∀ pn F T H σ ρ b ρ', StOk pn F T H σ ρ → w ρ = some (b, ρ') → ∀ Q : Bool → Hp → Prop, (∀ T' H', StOk pn F T' H' σ ρ' → Stp F T H T' H' → Q b H') → tt σ H Q
def SWA (ta : TA) (w : XWA) : Prop := ∀ pn F T H σ ρ ds ρ', StOk pn F T H σ ρ → w ρ = some (ds, ρ') → ∀ Q : List V → Hp → Prop, (∀ vs T' H', StOk pn F T' H' σ ρ' → Stp F T H T' H' → RpAll (hid (SF F T') H') vs ds → Q vs H') → ta σ H Q
def SWO (te : TE) (w : XWO) : Prop := ∀ pn F T H σ ρ cs ρ', StOk pn F T H σ ρ → w ρ = some (cs, ρ') → ∀ Q : VK, (∀ v A T' H', StOk pn (FL F A) T' H' σ ρ' → A.Nodup → (∀ x ∈ A, ¬ F x) → (∀ x, F x → H' x = H x) → Ex (hid (SF F T) H) (hid (SF (FL F A) T') H') → Own (hid (SF (FL F A) T') H') H' v cs A → Q v H') → te σ H Q
def wM (x : XE) : XW := fun ρ => (x (mk ρ)).bind fun d => some (d, ρ)
def wV (x : XE) : XW := fun ρ => (x (vw ρ)).bind fun d => if flat d = true then some (d, ρ) else none
def wMT (x : XT) : XWT := fun ρ => (x (mk ρ)).bind fun d => some (d, ρ)
def wVT (x : XT) : XWT := fun ρ => (x (vw ρ)).bind fun d => some (d, ρ)
def wNil : XWA := fun ρ => some ([], ρ)
def wCons (a : XW) (as : XWA) : XWA := fun ρ => (a ρ).bind fun x => (as x.2).bind fun xs => some (x.1 :: xs.1, xs.2)
def wOp (f : PD → PD → Option PD) (a b : XW) : XW := fun ρ => (a ρ).bind fun x => (b x.2).bind fun y => (f x.1 y.1).bind fun z => some (z, y.2)
def wCB (f : List PD → Option PD) (as : XWA) : XW := fun ρ => (as ρ).bind fun x => (f x.1).bind fun z => some (z, x.2)
section
variable {ta tb te : TE} {t u : TT} {ts : TA} {a b w : XW} {p q : XWT} {as : XWA} {r : R2} {f : PD → PD → Option PD} {x : XE}
theorem sw_M (h : SE te x) : SW te (wM x) := fun pn F T H σ ρ d ρ' st e Q q => by
  obtain ⟨z, h1, h2⟩ := bind_some e
  cases h2
  exact h _ _ h1 (SF F T) σ H st.als st.mkd Q fun v H2 e2 rv => q v T H2 (st.ex e2) (Stp.ex st.al e2) rv
theorem sw_V (h : SE te x) : SW te (wV x) := fun pn F T H σ ρ d ρ' st e Q q => by
  obtain ⟨z, h1, h2⟩ := bind_some e
  by_cases c : flat z = true
  · rw [if_pos c] at h2
    cases h2
    exact h _ _ h1 F σ H st.al st.vw Q fun v H2 e2 rv => q v T H2 (st.ex e2) (Stp.ex st.al e2) (rv.flat (st.frz e2) c)
  · rw [if_neg c] at h2; cases h2
theorem swt_M {x : XT} (h : ST t x) : SWT t (wMT x) := fun pn F T H σ ρ d ρ' st e Q q => by
  obtain ⟨z, h1, h2⟩ := bind_some e
  cases h2
  exact h _ _ h1 (SF F T) σ H st.als st.mkd Q fun H2 e2 => q T H2 (st.ex e2) (Stp.ex st.al e2)
theorem swt_V {x : XT} (h : ST t x) : SWT t (wVT x) := fun pn F T H σ ρ d ρ' st e Q q => by
  obtain ⟨z, h1, h2⟩ := bind_some e
  cases h2
  exact h _ _ h1 F σ H st.al st.vw Q fun H2 e2 => q T H2 (st.ex e2) (Stp.ex st.al e2)
theorem swa_nil : SWA tNil wNil := fun pn F T H σ ρ d ρ' st e Q q => by cases e; exact q [] T H st Stp.refl .nil
theorem swa_cons (ha : SW ta a) (hs : SWA ts as) : SWA (tCons ta ts) (wCons a as) := fun pn F T H σ ρ d ρ' st e Q q => by
  obtain ⟨⟨x, ρ1⟩, h1, e⟩ := bind_some e
  obtain ⟨⟨xs, ρ2⟩, h2, e⟩ := bind_some e
  cases e
  exact ha pn F T H σ ρ x ρ1 st h1 _ fun v T1 H1 st1 s1 rv => hs pn F T1 H1 σ ρ1 xs ρ2 st1 h2 _ fun vs T2 H2 st2 s2 rs => q (v :: vs) T2 H2 st2 (s1.trans s2) (.cons (rv.ex s2.vis) rs)
theorem sw_op (hr : SO r f) (ha : SW ta a) (hb : SW tb b) : SW (tOp r ta tb) (wOp f a b) := fun pn F T H σ ρ d ρ' st e Q q => by
  obtain ⟨⟨x, ρ1⟩, h1, e⟩ := bind_some e
  obtain ⟨⟨y, ρ2⟩, h2, e⟩ := bind_some e
  obtain ⟨z, h3, e⟩ := bind_some e
  cases e
  exact ha pn F T H σ ρ x ρ1 st h1 _ fun v T1 H1 st1 s1 rv => hb pn F T1 H1 σ ρ1 y ρ2 st1 h2 _ fun w T2 H2 st2 s2 rw' =>
    hr x y d h3 (SF F T2) H2 v w st2.als (rv.ex s2.vis) rw' Q fun z H3 e3 rz => q z T2 H3 (st2.ex e3) ((s1.trans s2).trans (Stp.ex st2.al e3)) rz
end
def spF (f : List PD → Option PD) : Sp := fun vs H Q _ => ∃ S ds d, Al S H ∧ RpAll (hid S H) vs ds ∧ f ds = some d ∧ ∀ v H2, Ex H H2 → Rp (hid S H2) v d → Q v H2
theorem se_call {f : List PD → Option PD} {ts : TA} {as : XA} (hs : SA ts as) : SE (tCall (spF f) [] E0 ts) (xCB f as) := fun ρ d h S σ H al en Q q => by
  obtain ⟨ds, h1, h⟩ := bind_some h
  exact hs ρ ds h1 S σ H al en _ fun vs H1 e1 rv => ⟨S, ds, d, al.ex e1, by rw [List.append_nil]; exact rv, h, fun v H2 e2 r2 => q v H2 (e1.trans e2) r2⟩
theorem sw_call {f : List PD → Option PD} {ts : TA} {as : XWA} (hs : SWA ts as) : SW (tCall (spF f) [] E0 ts) (wCB f as) := fun pn F T H σ ρ d ρ' st e Q q => by
  obtain ⟨⟨xs, ρ1⟩, h1, e⟩ := bind_some e
  obtain ⟨z, h3, e⟩ := bind_some e
  cases e
  exact hs pn F T H σ ρ xs _ st h1 _ fun vs T1 H1 st1 s1 rv => ⟨SF F T1, xs, d, st1.als, by rw [List.append_nil]; exact rv, h3, fun v H2 e2 r2 => q v T1 H2 (st1.ex e2) (s1.trans (Stp.ex st1.al e2)) r2⟩
def spW (g : List Cel → List PD → Option (PD × List Cel)) : Sp := fun vs H Q _ => ∃ (F : Hs) (a : Addr) (B : List Addr) (cs : List Cel) (ws : List V) (ds : List PD) (d : PD) (cs' : List Cel), vs = .ref a :: ws ∧ Al F H ∧ (∀ x ∈ a :: B, ¬ F x) ∧ (a :: B).Nodup ∧
  Own (hid (FL F (a :: B)) H) H (.ref a) cs (a :: B) ∧ RpAll (hid (FL F (a :: B)) H) ws ds ∧ g cs ds = some (d, cs') ∧
  ∀ v B' H', (∀ x, F x → H' x = H x) → Ex (hid (FL F (a :: B)) H) (hid (FL F (a :: B')) H') → (∀ x ∈ a :: B', ¬ F x) → (a :: B').Nodup → Own (hid (FL F (a :: B')) H') H' (.ref a) cs' (a :: B') → Rp (hid (FL F (a :: B')) H') v d → Q v H'
def ownAt (ρ : Env) (i : Nat) : Option (List Cel) := match ρ[i]? with
  | some (.own cs) => some cs
  | _ => none
theorem ownAt_eq {ρ : Env} {i : Nat} {cs : List Cel} (h : ownAt ρ i = some cs) : ρ[i]? = some (.own cs) := by
  unfold ownAt at h
  split at h
  · rename_i e
    cases h
    exact e
  · cases h
def wCallK (i : Nat) (g : List Cel → List PD → Option (PD × List Cel)) (as : XWA) : XW := fun ρ => (ownAt ρ i).bind fun _ => (as ρ).bind fun x => (ownAt x.2 i).bind fun cs => (g cs x.1).bind fun y => some (y.1, x.2.set i (.own y.2))
theorem sw_callK {i : Nat} {g : List Cel → List PD → Option (PD × List Cel)} {ts : TA} {as : XWA} (hs : SWA ts as) : SW (tCall (spW g) [] E0 (tCons (tVar i) ts)) (wCallK i g as) := fun pn F T H σ ρ d ρ' st e Q q => by
  obtain ⟨cs0, h0, e⟩ := bind_some e
  obtain ⟨⟨xs, ρ1⟩, h1, e⟩ := bind_some e
  obtain ⟨cs, hi, e⟩ := bind_some e
  obtain ⟨⟨z, cs'⟩, h3, e⟩ := bind_some e
  have hi : ρ1[i]? = some (.own cs) := ownAt_eq hi
  have e : some (z, ρ1.set i (.own cs')) = some (d, ρ') := e
  obtain ⟨rfl, rfl⟩ := Prod.mk.inj (Option.some.inj e)
  -- the slot holds the same address all along
  have key : ∀ (vs : List V) (T1 : Trs) (H1 : Hp), StOk pn F T1 H1 σ ρ1 → Stp F T H T1 H1 → RpAll (hid (SF F T1) H1) vs xs → ∀ a : Addr, σ[i]? = some (some (.ref a)) → spW g (.ref a :: vs) H1 Q E0 := by
    intro vs T1 H1 st1 s1 rv a ha
    obtain ⟨a', us, B, ha', hl, hc, hT⟩ := st1.at_own hi
    have ea : a' = a := by rw [ha'] at ha; cases ha; rfl
    subst ea
    obtain ⟨F1, hF1⟩ : ∃ F1 : Hs, F1 = fun x => F x ∨ ∃ j, j ≠ i ∧ x ∈ T1 j := ⟨_, rfl⟩
    have eqv : ∀ x, FL F1 (a' :: B) x ↔ SF F T1 x := fun x => by
      rw [hF1]
      constructor
      · rintro ((h | ⟨j, _, h⟩) | h)
        · exact .inl h
        · exact .inr ⟨j, h⟩
        · exact .inr ⟨i, by rw [hT]; exact h⟩
      · rintro (h | ⟨j, h⟩)
        · exact .inl (.inl h)
        · by_cases c : j = i
          · subst c; rw [hT] at h; exact .inr h
          · exact .inl (.inr ⟨j, c, h⟩)
    have eh : hid (FL F1 (a' :: B)) H1 = hid (SF F T1) H1 := hid_eq eqv
    refine ⟨F1, a', B, cs, vs, xs, z, cs', rfl, ?_, ?_, by rw [← hT]; exact st1.nd i, ⟨a', us, B, rfl, hl, by rw [eh]; exact hc, rfl⟩, by rw [eh]; exact rv, h3, fun v B' H' fr vis off nd ow rv' => ?_⟩
    · intro x hx
      rw [hF1] at hx
      exact st1.als x (hx.elim .inl fun ⟨j, _, h⟩ => .inr ⟨j, h⟩)
    · intro x hx hx2
      rw [hF1] at hx2
      have hx3 : x ∈ T1 i := by rw [hT]; exact hx
      rcases hx2 with h | ⟨j, c, h⟩
      · exact st1.off i x hx3 h
      · exact c (st1.dis j i x h hx3)
    · have eqv' : ∀ x, FL F1 (a' :: B') x ↔ SF F (setT T1 i (a' :: B')) x := fun x => by
        rw [hF1]
        constructor
        · rintro ((h | ⟨j, c, h⟩) | h)
          · exact .inl h
          · exact .inr ⟨j, by rw [setT_ne c]; exact h⟩
          · exact .inr ⟨i, by rw [setT_same]; exact h⟩
        · rintro (h | ⟨j, h⟩)
          · exact .inl (.inl h)
          · by_cases c : j = i
            · subst c; rw [setT_same] at h; exact .inr h
            · rw [setT_ne c] at h; exact .inl (.inr ⟨j, c, h⟩)
      have eh' : hid (FL F1 (a' :: B')) H' = hid (SF F (setT T1 i (a' :: B'))) H' := hid_eq eqv'
      rw [eh, eh'] at vis
      rw [eh'] at ow rv'
      have il : i < ρ1.length := (List.getElem?_eq_some_iff.mp hi).1
      refine q v (setT T1 i (a' :: B')) H' ⟨by rw [List.length_set]; exact st1.len, fun x hx => ?_, fun j x h => ?_, fun j k x h h' => ?_, fun j => ?_, fun j hj => ?_, fun j s hs => ?_, st1.pin⟩ (s1.trans ⟨fun x hx => fr x (by rw [hF1]; exact .inl hx), vis⟩) rv'
      · rw [fr x (by rw [hF1]; exact .inl hx)]
        exact st1.al x hx
      · by_cases c : j = i
        · subst c
          rw [setT_same] at h
          exact fun z => off x h (by rw [hF1]; exact .inl z)
        · rw [setT_ne c] at h
          exact st1.off j x h
      · by_cases c : j = i
        · subst c
          rw [setT_same] at h
          by_cases c2 : k = j
          · exact c2.symm
          · rw [setT_ne c2] at h'
            exact absurd (show F1 x by rw [hF1]; exact .inr ⟨k, c2, h'⟩) (off x h)
        · rw [setT_ne c] at h
          by_cases c2 : k = i
          · subst c2
            rw [setT_same] at h'
            exact absurd (show F1 x by rw [hF1]; exact .inr ⟨j, c, h⟩) (off x h')
          · rw [setT_ne c2] at h'
            exact st1.dis j k x h h'
      · by_cases c : j = i
        · subst c; rw [setT_same]; exact nd
        · rw [setT_ne c]; exact st1.nd j
      · rw [List.length_set] at hj
        rw [setT_ne (by omega)]
        exact st1.out j hj
      · by_cases c : i = j
        · subst c
          rw [List.getElem?_set_self il] at hs
          cases hs
          rw [setT_same]
          exact ⟨_, ha', _, rfl, ow⟩
        · rw [List.getElem?_set_ne c] at hs
          obtain ⟨o, h1, h2⟩ := st1.sl j s hs
          rw [setT_ne (fun z => c z.symm)]
          exact ⟨o, h1, h2.mv vis fun x hx => fr x (by rw [hF1]; exact .inr ⟨j, fun z => c z.symm, hx⟩)⟩
  obtain ⟨a, _, _, ha, _⟩ := st.at_own (ownAt_eq h0)
  refine ⟨.ref a, ha, hs pn F T H σ ρ xs ρ1 st h1 _ fun vs T1 H1 st1 s1 rv => ?_⟩
  show spW g (V.ref a :: vs ++ []) H1 Q E0
  rw [List.append_nil]
  exact key vs T1 H1 st1 s1 rv a ha
end Uv

namespace Uv
open PySem PySem.Spec PyProof.Rows L2
open Evl (Ex)
variable [kk : KK]
def Loose (H : Hp) (v : V) (x : PD) : Prop := ∃ a xs ds, v = .ref a ∧ H a = some (.tup xs) ∧ RpAll H xs ds ∧ x = .tuple ds
def Rk (b : Bool) (H : Hp) (v : V) (x : PD) : Prop := Rp H v x ∨ (b = true ∧ Loose H v x)
def Wk (b : Bool) (S : Hs) (J : It) (xs : List PD) (H : Hp) : Prop := ∀ S' H2, Ex (hid S H) (hid S' H2) → Al S' H2 → J.stop xs.length H2 ∧ ∀ i x, xs[i]? = some x → J.go i H2 ∧ ∀ v H3, J.yld i H2 v H3 → Ex H2 H3 ∧ Rk b (hid S' H3) v x
def pairsD (xs : List PD) : List PD := xs.zipIdx.map fun p => .tuple [.int (p.2 : Nat), p.1]
section
variable {S : Hs} {H : Hp}
theorem wk_tup {a : Addr} {o : Obj} {vs : List V} {xs : List PD} (ha : hid S H a = some (fz o vs)) (ra : RpAll (hid S H) vs xs) : Wk false S (Itt K a) xs H := fun S' H2 e2 al2 => by
  have sq : SqT K H2 a vs := .inl (.inr ⟨_, hid_le _ _ (e2 _ _ ha)⟩)
  have ra2 := ra.ex e2
  refine ⟨⟨_, sq, Nat.le_of_eq ra2.length⟩, fun i x hx => ?_⟩
  obtain ⟨v, hv, rv⟩ := ra2.get hx
  refine ⟨⟨_, v, sq, hv⟩, fun w H3 y => ?_⟩
  obtain ⟨y1, y2⟩ := y
  have e := y2 _ sq
  rw [hv] at e
  cases e
  subst y1
  exact ⟨Ex.refl _, .inl rv⟩
theorem wk_lst {a : Addr} {vs : List V} {xs : List PD} (ha : hid S H a = some (.lst vs)) (ra : RpAll (hid S H) vs xs) : Wk false S (Itl K a) xs H := fun S' H2 e2 al2 => by
  have sq : SqL K H2 a vs := .inl (.inl (hid_le _ _ (e2 _ _ ha)))
  have ra2 := ra.ex e2
  refine ⟨⟨_, sq, Nat.le_of_eq ra2.length⟩, fun i x hx => ?_⟩
  obtain ⟨v, hv, rv⟩ := ra2.get hx
  refine ⟨⟨_, v, sq, hv⟩, fun w H3 y => ?_⟩
  obtain ⟨y1, y2⟩ := y
  have e := y2 _ sq
  rw [hv] at e
  cases e
  subst y1
  exact ⟨Ex.refl _, .inl rv⟩
theorem wk_scr {a : Addr} {vs : List V} {xs : List PD} (ha : SqL K (hid S H) a vs) (ra : RpAll (hid S H) vs xs) : Wk false S (Itl K a) xs H := fun S' H2 e2 al2 => by
  have sq : SqL K H2 a vs := sqx hid_le (sqx e2 ha)
  have ra2 := ra.ex e2
  refine ⟨⟨_, sq, Nat.le_of_eq ra2.length⟩, fun i x hx => ?_⟩
  obtain ⟨v, hv, rv⟩ := ra2.get hx
  refine ⟨⟨_, v, sq, hv⟩, fun w H3 y => ?_⟩
  obtain ⟨y1, y2⟩ := y
  have e := y2 _ sq
  rw [hv] at e
  cases e
  subst y1
  exact ⟨Ex.refl _, .inl rv⟩
theorem wk_rng {lo : Int} {n : Nat} : Wk false S (Itr lo n) ((List.range n).map fun k => .int (lo + (k : Nat))) H := fun S' H2 e2 al2 => by
  refine ⟨by show n ≤ _; simp, fun i x hx => ?_⟩
  rw [List.getElem?_map] at hx
  cases qq : (List.range n)[i]? with
  | none => rw [qq] at hx; cases hx
  | some k =>
    rw [qq] at hx
    obtain ⟨hi, ek⟩ := List.getElem?_eq_some_iff.mp qq
    have ek2 : i = k := by simpa using ek
    subst ek2
    cases hx
    refine ⟨by show i < n; simpa using hi, fun v H3 y => ?_⟩
    obtain ⟨y1, y2⟩ := y
    subst y1 y2
    exact ⟨Ex.refl _, .inl (.int _)⟩
theorem pairs_get {xs : List PD} {i : Nat} {x : PD} (hx : (pairsD xs)[i]? = some x) : ∃ y, xs[i]? = some y ∧ x = .tuple [.int (i : Nat), y] := by
  unfold pairsD at hx
  rw [List.getElem?_map, List.getElem?_zipIdx] at hx
  cases q : xs[i]? with
  | none => rw [q] at hx; simp at hx
  | some y =>
    rw [q] at hx
    refine ⟨y, rfl, ?_⟩
    simp at hx
    exact hx.symm
theorem loose2 {S' : Hs} {H2 : Hp} {T : Addr} {u v : V} {x y : PD} (al : Al S' H2) (hT : H2 T = none) (ru : Rp (hid S' H2) u x) (rv : Rp (hid S' H2) v y) : Ex H2 (upd H2 T (.tup [u, v])) ∧ Rk true (hid S' (upd H2 T (.tup [u, v]))) (.ref T) (.tuple [x, y]) :=
  ⟨Ex.new hT, .inr ⟨rfl, T, _, _, rfl, new_ok al hT, .cons (ru.ex (hid_ex (Ex.new hT))) (.cons (rv.ex (hid_ex (Ex.new hT))) .nil), rfl⟩⟩
theorem wk_enumT {a : Addr} {o : Obj} {vs : List V} {xs : List PD} (ha : hid S H a = some (fz o vs)) (ra : RpAll (hid S H) vs xs) : Wk true S (Un.IteT K a) (pairsD xs) H := fun S' H2 e2 al2 => by
  have sq : SqT K H2 a vs := .inl (.inr ⟨_, hid_le _ _ (e2 _ _ ha)⟩)
  have ra2 := ra.ex e2
  refine ⟨⟨_, sq, by rw [ra2.length]; simp [pairsD]⟩, fun i x hx => ?_⟩
  obtain ⟨y, hy, rfl⟩ := pairs_get hx
  obtain ⟨v, hv, rv⟩ := ra2.get hy
  refine ⟨⟨_, v, sq, hv⟩, fun w H3 yl => ?_⟩
  obtain ⟨T, z, rfl, e2, rfl, e4⟩ := yl
  have ez := e4 _ sq
  rw [hv] at ez
  cases ez
  exact loose2 al2 e2 (.int _) rv
theorem wk_enumL {a : Addr} {vs : List V} {xs : List PD} (ha : hid S H a = some (.lst vs)) (ra : RpAll (hid S H) vs xs) : Wk true S (Ite K a) (pairsD xs) H := fun S' H2 e2 al2 => by
  have sq : SqL K H2 a vs := .inl (.inl (hid_le _ _ (e2 _ _ ha)))
  have ra2 := ra.ex e2
  refine ⟨⟨_, sq, by rw [ra2.length]; simp [pairsD]⟩, fun i x hx => ?_⟩
  obtain ⟨y, hy, rfl⟩ := pairs_get hx
  obtain ⟨v, hv, rv⟩ := ra2.get hy
  refine ⟨⟨_, v, sq, hv⟩, fun w H3 yl => ?_⟩
  obtain ⟨T, z, rfl, e2, rfl, e4⟩ := yl
  have ez := e4 _ sq
  rw [hv] at ez
  cases ez
  exact loose2 al2 e2 (.int _) rv
end
def iSeq (K : PySem.W.Frag) (te : TE) : TI := fun σ H R => iList K te σ H R ∨ iTup K te σ H R
def iEnumU (K : PySem.W.Frag) (ta : TA) : TI := fun σ H R => iEnum K ta σ H R ∨ Un.iEnumT K ta σ H R
def seqP : PD → Option (List PD)
  | .list ds => some ds
  | .tuple ds => some ds
  | .dict [(.none, .list ds)] => some ds
  | _ => none
def rngP : List PD → Option (List PD)
  | [.int n] => if -(2 ^ 62) ≤ n ∧ n < 2 ^ 62 then some ((List.range n.toNat).map fun k => .int (0 + (k : Nat))) else none
  | _ => none
def enumP : List PD → Option (List PD)
  | [.list ds] => some (pairsD ds)
  | [.tuple ds] => some (pairsD ds)
  | _ => none
abbrev XI := VE → Option (List PD)
def Es (b : Bool) (wi : TI) (ρ : VE) (xs : List PD) : Prop := ∀ S σ H, Al S H → En (hid S H) σ ρ → ∀ R : It → Hp → Prop, (∀ J H1, Ex H H1 → Wk b S J xs H1 → R J H1) → wi σ H R
def SI (b : Bool) (wi : TI) (x : XI) : Prop := ∀ ρ xs, x ρ = some xs → Es b wi ρ xs
abbrev XWI := Env → Option (List PD × Env)
def SWI (b : Bool) (wi : TI) (w : XWI) : Prop := ∀ pn F T H σ ρ xs ρ', StOk pn F T H σ ρ → w ρ = some (xs, ρ') → ∀ R : It → Hp → Prop, (∀ J T' H', StOk pn F T' H' σ ρ' → Stp F T H T' H' → Wk b (SF F T') J xs H' → R J H') → wi σ H R
def xiE (a : XE) : XI := fun ρ => (a ρ).bind seqP
def xiA (f : List PD → Option (List PD)) (as : XA) : XI := fun ρ => (as ρ).bind f
def wiA (f : List PD → Option (List PD)) (as : XWA) : XWI := fun ρ => (as ρ).bind fun x => (f x.1).bind fun xs => some (xs, x.2)
section
variable {te : TE} {ts : TA}
theorem core_rng {S : Hs} {vs : List V} {H1 : Hp} {ds xs : List PD} (h : rngP ds = some xs) (rv : RpAll (hid S H1) vs ds) : ∃ j : Int, vs = [.int j] ∧ -(2 ^ 62) ≤ j ∧ j < 2 ^ 62 ∧ Wk false S (Itr 0 j.toNat) xs H1 := by
  unfold rngP at h
  split at h
  · rename_i n
    by_cases c : -(2 ^ 62) ≤ n ∧ n < 2 ^ 62
    · rw [if_pos c] at h
      cases h
      cases rv with
      | cons h1 t =>
        cases t
        cases h1
        exact ⟨n, rfl, c.1, c.2, wk_rng⟩
    · rw [if_neg c] at h; cases h
  · cases h
theorem si_seq {a : XE} (ha : SE te a) : SI false (iSeq K te) (xiE a) := fun ρ xs h S σ H al en R q => by
  obtain ⟨d, h1, h⟩ := bind_some h
  cases d with
  | list ds =>
    cases h
    refine .inl (ha ρ _ h1 S σ H al en _ fun v H1 e1 rv => ?_)
    cases rv with
    | lst hx ra => exact ⟨_, rfl, ⟨_, .inl (.inl (hid_le _ _ hx))⟩, q _ H1 e1 (wk_lst hx ra)⟩
  | tuple ds =>
    cases h
    refine .inr (ha ρ _ h1 S σ H al en _ fun v H1 e1 rv => ?_)
    cases rv with
    | tup hx _ ra => exact ⟨_, rfl, ⟨_, .inl (.inr ⟨_, hid_le _ _ hx⟩)⟩, q _ H1 e1 (wk_tup hx ra)⟩
  | dict kvs =>
    refine .inl (ha ρ _ h1 S σ H al en _ fun v H1 e1 rv => ?_)
    cases rv with
    | dct _ _ hp _ => rcases zip_str hp with e | ⟨k, d, r, e⟩ <;> (subst e; cases h)
    | dci _ _ _ => cases h
    | exo _ _ _ _ => cases h
    | «fun» _ => cases h
    | hal _ _ _ _ _ => cases h
    | scr hs ra => cases h; exact ⟨_, rfl, ⟨_, sqx hid_le hs⟩, q _ H1 e1 (wk_scr hs ra)⟩
  | _ => cases h
theorem si_rng {as : XA} (hs : SA ts as) : SI false (iRng1 ts) (xiA rngP as) := fun ρ xs h S σ H al en R q => by
  obtain ⟨ds, h1, h⟩ := bind_some h
  refine hs ρ ds h1 S σ H al en _ fun vs H1 e1 rv => ?_
  obtain ⟨j, h2, h3, h4, w⟩ := core_rng h rv
  exact ⟨j, h2, h3, h4, q _ H1 e1 w⟩
theorem enum_l {ds xs : List PD} (h : enumP ds = some xs) : (∃ l, ds = [.list l]) ∨ ∃ l, ds = [.tuple l] := by
  unfold enumP at h
  split at h
  · exact .inl ⟨_, rfl⟩
  · exact .inr ⟨_, rfl⟩
  · cases h
theorem swi_rng {as : XWA} (hs : SWA ts as) : SWI false (iRng1 ts) (wiA rngP as) := fun pn F T H σ ρ xs ρ' st h R q => by
  obtain ⟨⟨ds, ρ1⟩, h1, h⟩ := bind_some h
  obtain ⟨ys, h2, h⟩ := bind_some h
  cases h
  refine hs pn F T H σ ρ ds _ st h1 _ fun vs T1 H1 st1 s1 rv => ?_
  obtain ⟨j, h2, h3, h4, w⟩ := core_rng h2 rv
  exact ⟨j, h2, h3, h4, q _ T1 H1 st1 s1 w⟩
theorem swi_enum {as : XWA} (hs : SWA ts as) : SWI true (iEnumU K ts) (wiA enumP as) := fun pn F T H σ ρ xs ρ' st h R q => by
  obtain ⟨⟨ds, ρ1⟩, h1, h⟩ := bind_some h
  obtain ⟨ys, h2, h⟩ := bind_some h
  cases h
  rcases enum_l h2 with ⟨l, e⟩ | ⟨l, e⟩ <;> (have e : ds = _ := e; subst e)
  · refine .inl (hs pn F T H σ ρ _ _ st h1 _ fun vs T1 H1 st1 s1 rv => ?_)
    cases h2
    cases rv with
    | cons g1 t =>
      cases t
      cases g1 with
      | lst ha ra => exact ⟨_, _, rfl, .inl (.inl (hid_le _ _ ha)), q _ T1 H1 st1 s1 (wk_enumL ha ra)⟩
  · refine .inr (hs pn F T H σ ρ _ _ st h1 _ fun vs T1 H1 st1 s1 rv => ?_)
    cases h2
    cases rv with
    | cons g1 t =>
      cases t
      cases g1 with
      | tup ha _ ra => exact ⟨_, _, rfl, .inl (.inr ⟨_, hid_le _ _ ha⟩), q _ T1 H1 st1 s1 (wk_enumT ha ra)⟩
end
end Uv

namespace Uv
open PySem PySem.Spec PyProof.Rows L2
open Evl (Ex)
variable [kk : KK]
def Off (vs : List Nat) (σ σ' : L2.St) : Prop := σ'.length = σ.length ∧ ∀ (i : Nat), i ∉ vs → σ'[i]? = σ[i]?
theorem Off.refl {vs : List Nat} {σ : L2.St} : Off vs σ σ := ⟨rfl, fun _ _ => rfl⟩
theorem Off.name {i : Nat} {σ : L2.St} {o : Option V} : Off [i] σ (σ.set i o) := ⟨List.length_set, fun j hj => List.getElem?_set_ne fun z => hj (by rw [z]; exact List.mem_cons_self ..)⟩
theorem Off.trans {vs ws : List Nat} {σ σ1 σ2 : L2.St} (a : Off vs σ σ1) (b : Off ws σ1 σ2) : Off (vs ++ ws) σ σ2 := ⟨b.1.trans a.1, fun i hi => (b.2 i fun z => hi (List.mem_append_right _ z)).trans (a.2 i fun z => hi (List.mem_append_left _ z))⟩
def gTU (K : PySem.W.Frag) (n : Nat) (t : TGs) : TG := fun v σ H Q => gTup K n t v σ H Q ∨ gUnl K n t v σ H Q
theorem PG.or {X : Cx} {e : Expr} {t u : TG} (h : PG X e t) (h' : PG X e u) : PG X e (fun v σ H Q => t v σ H Q ∨ u v σ H Q) := ⟨fun pins s σ H v w Q I r q => q.elim (h.run pins s σ H v w Q I r) (h'.run pins s σ H v w Q I r)⟩
abbrev XGV := PD → VE → Option VE
def gvName (i : Nat) : XGV := fun x ρ => some (ρ.set i (some x))
def SGV (b : Bool) (g : TG) (xg : XGV) (vs : List Nat) : Prop := ∀ x ρ ρ', xg x ρ = some ρ' → ∀ S σ H v, En (hid S H) σ ρ → Rk b (hid S H) v x → ∀ Q : L2.St → Hp → Prop, (∀ σ', En (hid S H) σ' ρ' → Off vs σ σ' → Q σ' H) → g v σ H Q
abbrev XG := PD → Env → Option Env
abbrev XGs := List PD → Env → Option Env
def gName' (i : Nat) : XG := fun x ρ => some (ρ.set i (.dat x))
def gNil' : XGs := fun xs ρ => match xs with
  | [] => some ρ
  | _ :: _ => none
def gCons' (g : XG) (gs : XGs) : XGs := fun xs ρ => match xs with
  | x :: r => (g x ρ).bind fun ρ1 => gs r ρ1
  | [] => none
def gTup' (n : Nat) (gs : XGs) : XG := fun x ρ => (seqP x).bind fun ds => if ds.length = n then gs ds ρ else none
def SG (b : Bool) (g : TG) (xg : XG) (vs : List Nat) : Prop := ∀ pn F T H σ v x ρ ρ', StOk pn F T H σ ρ → xg x ρ = some ρ' → Rk b (hid (SF F T) H) v x → ∀ Q : L2.St → Hp → Prop, (∀ σ' T', StOk pn F T' H σ' ρ' → Stp F T H T' H → Off vs σ σ' → Q σ' H) → g v σ H Q
def SGs (gs : TGs) (xg : XGs) (vs : List Nat) : Prop := ∀ pn F T H σ ws xs ρ ρ', StOk pn F T H σ ρ → xg xs ρ = some ρ' → RpAll (hid (SF F T) H) ws xs → ∀ Q : L2.St → Hp → Prop, (∀ σ' T', StOk pn F T' H σ' ρ' → Stp F T H T' H → Off vs σ σ' → Q σ' H) → gs ws σ H Q
section
variable {vs ws : List Nat}
theorem sgv_name {i : Nat} : SGV false (gName i) (gvName i) [i] := fun x ρ ρ' h S σ H v en r Q q => by
  cases h
  rcases r with r | ⟨z, _⟩
  · exact q _ (en.set i r) Off.name
  · cases z
theorem seq_read {b : Bool} {n : Nat} {H G : Hp} {v : V} {x : PD} {ds : List PD} (e : Ex G H) (hx : seqP x = some ds) (hn : ds.length = n) (r : Rk b G v x) : ∃ a us, v = .ref a ∧ (SqT K H a us ∨ SqL K H a us) ∧ us.length = n ∧ RpAll G us ds := by
  rcases r with r | ⟨_, a, us, es, rfl, ha, ra, rfl⟩
  · cases r with
    | lst ha ra => cases hx; exact ⟨_, _, rfl, .inr (.inl (.inl (e _ _ ha))), by rw [ra.length, hn], ra⟩
    | tup ha _ ra => cases hx; exact ⟨_, _, rfl, .inl (.inl (.inr ⟨_, e _ _ ha⟩)), by rw [ra.length, hn], ra⟩
    | scr hs ra => cases hx; exact ⟨_, _, rfl, .inr (sqx e hs), by rw [ra.length, hn], ra⟩
    | dct _ _ hp _ => rcases zip_str hp with e | ⟨k, d, r, e⟩ <;> (subst e; cases hx)
    | _ => cases hx
  · cases hx
    exact ⟨a, us, rfl, .inl (.inl (.inl (e _ _ ha))), by rw [ra.length, hn], ra⟩
theorem sg_name {i : Nat} (hi : i ≠ 0) : SG false (gName i) (gName' i) [i] := fun pn F T H σ v x ρ ρ' st h r Q q => by
  cases h
  rcases r with r | ⟨z, _⟩
  · obtain ⟨st', s⟩ := st.set hi r
    exact q _ _ st' s Off.name
  · cases z
theorem sg_nil : SGs gNil gNil' [] := fun pn F T H σ us xs ρ ρ' st h r Q q => by
  cases r with
  | nil => cases h; exact ⟨rfl, q σ T st Stp.refl Off.refl⟩
  | cons _ _ => cases h
theorem sg_cons {g : TG} {gs : TGs} {xg : XG} {xgs : XGs} (hg : SG false g xg vs) (hs : SGs gs xgs ws) : SGs (gCons g gs) (gCons' xg xgs) (vs ++ ws) := fun pn F T H σ us xs ρ ρ' st h r Q q => by
  cases r with
  | nil => cases h
  | cons a b =>
    obtain ⟨ρ1, h1, h2⟩ := bind_some (show (xg _ ρ).bind _ = some ρ' from h)
    exact ⟨_, _, rfl, hg pn F T H σ _ _ ρ ρ1 st h1 (.inl a) _ fun σ1 T1 st1 s1 f1 => hs pn F T1 H σ1 _ _ ρ1 ρ' st1 h2 (b.ex s1.vis) Q fun σ2 T2 st2 s2 f2 => q σ2 T2 st2 (s1.trans s2) (f1.trans f2)⟩
theorem sg_tup {b : Bool} {n : Nat} {gs : TGs} {xgs : XGs} (hs : SGs gs xgs vs) : SG b (gTU K n gs) (gTup' n xgs) vs := fun pn F T H σ v x ρ ρ' st h r Q q => by
  obtain ⟨ds, h1, h⟩ := bind_some h
  by_cases c : ds.length = n
  · rw [if_pos c] at h
    obtain ⟨a, us, rfl, sq, hl, ra⟩ := seq_read (hid_le (S := SF F T)) h1 c r
    rcases sq with sq | sq
    · exact .inl ⟨a, us, rfl, sq, hl, hs pn F T H σ us ds ρ ρ' st h ra Q q⟩
    · exact .inr ⟨a, us, rfl, sq, hl, hs pn F T H σ us ds ρ ρ' st h ra Q q⟩
  · rw [if_neg c] at h; cases h
end
def clear (ρ : VE) : List Nat → VE
  | [] => ρ
  | v :: vs => (clear ρ vs).set v none
theorem clear_en {H : Hp} {σ : L2.St} {ρ : VE} (h : En H σ ρ) : ∀ vs : List Nat, En H (wipe σ vs) (clear ρ vs)
  | [] => h
  | v :: vs => (clear_en h vs).clear v none
theorem wipe_get {σ : L2.St} {i : Nat} : ∀ {vs : List Nat}, i ∉ vs → (wipe σ vs)[i]? = σ[i]?
  | [], _ => rfl
  | v :: vs, h => by
    unfold wipe
    rw [List.getElem?_set_ne (fun z => h (by rw [← z]; exact List.mem_cons_self ..))]
    exact wipe_get fun z => h (List.mem_cons_of_mem _ z)
theorem wipe_at {σ : L2.St} {i : Nat} : ∀ {vs : List Nat}, i ∈ vs → i < σ.length → (wipe σ vs)[i]? = some none
  | v :: vs, h, hl => by
    unfold wipe
    by_cases c : v = i
    · subst c
      exact List.getElem?_set_self (by rw [wipe_length]; exact hl)
    · rw [List.getElem?_set_ne c]
      rcases List.mem_cons.mp h with z | z
      · exact absurd z.symm c
      · exact wipe_at z hl
theorem wipe_eq {σ τ : L2.St} {vs : List Nat} (hl : σ.length = τ.length) (h : ∀ i, i ∉ vs → σ[i]? = τ[i]?) : wipe σ vs = wipe τ vs := by
  apply List.ext_getElem?
  intro i
  by_cases c : i ∈ vs
  · by_cases b : i < σ.length
    · rw [wipe_at c b, wipe_at c (by omega)]
    · rw [List.getElem?_eq_none (by rw [wipe_length]; omega), List.getElem?_eq_none (by rw [wipe_length]; omega)]
  · rw [wipe_get c, wipe_get c]
    exact h i c
theorem wipe_off {vs : List Nat} {σ τ : L2.St} {us : List Nat} (f : Off us (wipe σ vs) τ) (hu : ∀ i ∈ us, i ∈ vs) : wipe τ vs = wipe σ vs := by
  have ew : wipe (wipe σ vs) vs = wipe σ vs := wipe_eq (wipe_length σ vs) fun j hj => wipe_get hj
  rw [← ew]
  exact wipe_eq f.1 fun j hj => f.2 j fun z => hj (hu j z)
def lcGo (g : XGV) (t : XT) (e : XE) (ρ : VE) : List PD → Option (List PD)
  | [] => some []
  | x :: xs => (g x ρ).bind fun ρ1 => (t ρ1).bind fun b => if b = true then (e ρ1).bind fun d => (lcGo g t e ρ xs).bind fun ds => some (d :: ds) else lcGo g t e ρ xs
def xLc (src : XI) (g : XGV) (t : XT) (e : XE) (vs : List Nat) : XE := fun ρ => (src ρ).bind fun xs => if xs.length ≤ 40000 then (lcGo g t e (clear ρ vs) xs).bind fun ds => some (.list ds) else none
def FrL (te : TE) (ρ : VE) (ds : List PD) : Prop := ∀ S σ H, Al S H → En (hid S H) σ ρ → ∀ Q : VK, (∀ p vs H2, Ex H H2 → H p = none → H2 p = some (.lst vs) → RpAll (hid (fun x => x = p ∨ S x) H2) vs ds → Q (.ref p) H2) → te σ H Q
def SEF (te : TE) (x : XE) : Prop := ∀ ρ d, x ρ = some d → ∃ ds, d = .list ds ∧ FrL te ρ ds
theorem SEF.se {te : TE} {x : XE} (h : SEF te x) : SE te x := fun ρ d e S σ H al en Q q => by
  obtain ⟨ds, rfl, f⟩ := h ρ d e
  exact f S σ H al en Q fun p vs H2 e2 hp h2 ra => q _ H2 e2 (.lst (by rw [hid_out (al.new hp)]; exact h2) (ra.ex (hid_sub fun x hx => .inr hx)))
section
theorem lc_step {g : XGV} {t : XT} {e : XE} {ρ : VE} {x : PD} {xs ds : List PD} (h : lcGo g t e ρ (x :: xs) = some ds) : ∃ ρ1 b, g x ρ = some ρ1 ∧ t ρ1 = some b ∧ ((b = true ∧ ∃ d ds', e ρ1 = some d ∧ lcGo g t e ρ xs = some ds' ∧ ds = d :: ds') ∨ (b = false ∧ lcGo g t e ρ xs = some ds)) := by
  obtain ⟨ρ1, h1, h⟩ := bind_some (show (g x ρ).bind _ = some ds from h)
  obtain ⟨b, h2, h⟩ := bind_some h
  refine ⟨ρ1, b, h1, h2, ?_⟩
  cases b with
  | true =>
    obtain ⟨d, h3, h⟩ := bind_some (show (e ρ1).bind _ = some ds from h)
    obtain ⟨ds', h4, h⟩ := bind_some h
    cases h
    exact .inl ⟨rfl, d, ds', h3, h4, rfl⟩
  | false => exact .inr ⟨rfl, h⟩
theorem sef_lc {b : Bool} {wi : TI} {g : TG} {tt : TT} {te : TE} {vs us : List Nat} {src : XI} {xg : XGV} {t : XT} {e : XE} (hs : SI b wi src) (hg : SGV b g xg us) (hu : ∀ i ∈ us, i ∈ vs) (ht : ST tt t) (he : SE te e) : SEF (tLc wi g tt te vs) (xLc src xg t e vs) := fun ρ d h => by
  obtain ⟨xs, h1, h⟩ := bind_some h
  by_cases hz : xs.length ≤ 40000
  · rw [if_pos hz] at h
    obtain ⟨ds, h2, h⟩ := bind_some h
    cases h
    refine ⟨ds, rfl, fun S σ H al en Q q => hs ρ xs h1 S σ H al en _ fun J H1 e1 wk D hD => ?_⟩
    have al1 := al.ex e1
    have alD : Al (fun x => x = D ∨ S x) (upd H1 D (.lst [])) := fun x hx => by
      by_cases c : x = D
      · subst c; rw [upd_same]; exact fun z => nomatch z
      · rw [upd_ne c]; exact al1 x (hx.resolve_left c)
    refine ⟨fun i m H' => m = xs.length - i ∧ i ≤ xs.length ∧ Ex H1 H' ∧ Al (fun x => x = D ∨ S x) H' ∧ ∃ acc ds1 ds2, H' D = some (.lst acc) ∧ acc.length ≤ i ∧ RpAll (hid (fun x => x = D ∨ S x) H') acc ds1 ∧ lcGo xg t e (clear ρ vs) (xs.drop i) = some ds2 ∧ ds = ds1 ++ ds2,
      ⟨_, rfl, Nat.zero_le _, Ex.new hD, alD, [], [], ds, upd_same, Nat.le_refl _, .nil, h2, rfl⟩, fun i m H' hw => ?_⟩
    obtain ⟨rfl, hi, e2, al2, acc, ds1, ds2, hacc, la, ra, hgo, hds⟩ := hw
    have ewk : Ex (hid S H1) (hid (fun x => x = D ∨ S x) H') := hid_cons e2 hD
    obtain ⟨w1, w2⟩ := wk _ H' ewk al2
    by_cases hlt : i < xs.length
    · obtain ⟨w3, w4⟩ := w2 i _ (List.getElem?_eq_getElem hlt)
      rw [List.drop_eq_getElem_cons hlt] at hgo
      obtain ⟨ρ1, b1, g1, t1, alt⟩ := lc_step hgo
      refine .inr ⟨w3, fun H2 => Ex H1 H2 ∧ Al (fun x => x = D ∨ S x) H2 ∧ ∃ acc ds1 ds2, H2 D = some (.lst acc) ∧ acc.length ≤ i + 1 ∧ RpAll (hid (fun x => x = D ∨ S x) H2) acc ds1 ∧ lcGo xg t e (clear ρ vs) (xs.drop (i + 1)) = some ds2 ∧ ds = ds1 ++ ds2, fun H2 hn => ⟨_, by omega, rfl, hlt, hn⟩, fun v H3 y => ?_⟩
      obtain ⟨e3, rv⟩ := w4 v H3 y
      have al3 := al2.ex e3
      have en3 : En (hid (fun x => x = D ∨ S x) H3) (wipe σ vs) (clear ρ vs) := clear_en (en.ex (((hid_ex e1).trans ewk).trans (hid_ex e3))) vs
      refine hg _ _ ρ1 g1 _ (wipe σ vs) H3 v en3 rv _ fun σ4 en4 off => ⟨wipe_off off hu, ?_⟩
      refine ht ρ1 b1 t1 _ σ4 H3 al3 en4 _ fun H5 e5 => ?_
      have hacc5 : H5 D = some (.lst acc) := e5 _ _ (e3 _ _ hacc)
      have ra5 := ra.ex ((hid_ex (S := fun x => x = D ∨ S x) e3).trans (hid_ex e5))
      rcases alt with ⟨rfl, d1, ds', f1, f2, rfl⟩ | ⟨rfl, f2⟩
      · show te σ4 H5 _
        refine he ρ1 d1 f1 _ σ4 H5 (al3.ex e5) (en4.ex (hid_ex e5)) _ fun z H6 e6 rz => ⟨acc, e6 _ _ hacc5, Evl.sz_lt (by omega), Ex.mut (((e2.trans e3).trans e5).trans e6) hD, ?_, acc ++ [z], ds1 ++ [d1], ds', upd_same, by rw [List.length_append]; simpa using la, ?_, f2, by rw [hds, List.append_assoc]; rfl⟩
        · intro x hx
          by_cases c : x = D
          · subst c; rw [upd_same]; exact fun q => nomatch q
          · rw [upd_ne c]; exact ((al3.ex e5).ex e6) x hx
        · have hu' : Ex (hid (fun x => x = D ∨ S x) H6) (hid (fun x => x = D ∨ S x) (upd H6 D (.lst (acc ++ [z])))) := fun x o h => by
            obtain ⟨c, h⟩ := hid_some h
            rw [hid_out c, upd_ne (fun z => c (.inl z))]
            exact h
          exact RpAll.append (ra5.ex ((hid_ex e6).trans hu')) (.cons (rz.ex hu') .nil)
      · exact ⟨(e2.trans e3).trans e5, al3.ex e5, acc, ds1, ds2, hacc5, by omega, ra5, f2, hds⟩
    · have ei : i = xs.length := by omega
      subst ei
      rw [List.drop_length] at hgo
      cases hgo
      rw [List.append_nil] at hds
      subst hds
      exact .inl ⟨w1, q D acc H' (e1.trans e2) (by
        cases qq : H D with
        | none => rfl
        | some o => rw [e1 _ _ qq] at hD; cases hD) hacc ra⟩
  · rw [if_neg hz] at h; cases h
theorem sef_lst {ts : TA} {as : XA} (hs : SA ts as) : SEF (tLst ts) (xLst as) := fun ρ d h => by
  obtain ⟨ds, h1, h⟩ := bind_some h
  by_cases hl : ds.length ≤ 100000
  · rw [if_pos hl] at h
    cases h
    refine ⟨ds, rfl, fun S σ H al en Q q => hs ρ ds h1 S σ H al en _ fun vs H1 e1 ra => ⟨by rw [ra.length]; exact Evl.sz_of hl, fun p hp => q p vs _ (e1.trans (Ex.new hp)) (by
      cases qq : H p with
      | none => rfl
      | some o => rw [e1 _ _ qq] at hp; cases hp) upd_same (ra.ex (hid_cons (Ex.new hp) hp))⟩⟩
  · rw [if_neg hl] at h; cases h
end
end Uv

namespace Uv
open PySem PySem.Spec PyProof.Rows L2
open Evl (Ex)
variable [kk : KK]
theorem FL_nil {F : Hs} : FL F [] = F := funext fun x => propext ⟨fun h => h.elim id (fun z => nomatch z), .inl⟩
theorem FL_app {F : Hs} {A B : List Addr} : FL (FL F A) B = FL F (A ++ B) := funext fun x => propext ⟨fun h => h.elim (fun h => h.elim .inl fun z => .inr (List.mem_append_left _ z)) fun z => .inr (List.mem_append_right _ z),
  fun h => h.elim (fun h => .inl (.inl h)) fun z => (List.mem_append.mp z).elim (fun z => .inl (.inr z)) .inr⟩
theorem FL_perm {F : Hs} {A B : List Addr} (h : ∀ x, x ∈ A ↔ x ∈ B) : FL F A = FL F B := funext fun x => propext ⟨fun z => z.elim .inl fun z => .inr ((h x).mp z), fun z => z.elim .inl fun z => .inr ((h x).mpr z)⟩
theorem SF_FL1 {F : Hs} {T : Trs} {p : Addr} : SF (FL F [p]) T = fun x => x = p ∨ SF F T x := funext fun x => propext ⟨fun h => h.elim (fun h => h.elim (fun z => .inr (.inl z)) fun z => .inl (by simpa using z)) fun z => .inr (.inr z),
  fun h => h.elim (fun z => .inl (.inr (by rw [z]; exact List.mem_cons_self ..))) fun z => z.elim (fun z => .inl (.inl z)) .inr⟩
section
variable {pn : Pn} {F : Hs} {T : Trs} {H H2 : Hp} {σ : L2.St} {ρ : Env}
theorem StOk.fresh (st : StOk pn F T H σ ρ) (e : Ex H H2) {p : Addr} (hp : H p = none) (h2 : H2 p ≠ none) : StOk pn (FL F [p]) T H2 σ ρ ∧ Ex (hid (SF F T) H) (hid (SF (FL F [p]) T) H2) := by
  have vis : Ex (hid (SF F T) H) (hid (SF (FL F [p]) T) H2) := by rw [SF_FL1]; exact hid_cons e hp
  have st2 := st.ex e
  refine ⟨⟨st.len, fun x h => ?_, fun i x hx z => ?_, st.dis, st.nd, st.out, fun i s hi => ?_, st.pin⟩, vis⟩
  · rcases h with h | h
    · exact st2.al x h
    · have ex : x = p := by simpa using h
      rw [ex]; exact h2
  · rcases z with z | z
    · exact st.off i x hx z
    · have ex : x = p := by simpa using z
      obtain ⟨vs, q, _⟩ := st.lst hx
      rw [ex, hp] at q
      cases q
  · obtain ⟨o, h1, h3⟩ := st.sl i s hi
    refine ⟨o, h1, h3.mv vis fun x hx => ?_⟩
    obtain ⟨vs, q, _⟩ := st.lst hx
    rw [q, e x _ q]
end
abbrev XWC := Env → Option (List Cel × Env)
def SWC (ta : TA) (w : XWC) : Prop := ∀ pn F T H σ ρ cs ρ', StOk pn F T H σ ρ → w ρ = some (cs, ρ') → ∀ Q : List V → Hp → Prop, (∀ vs B T' H', StOk pn (FL F B) T' H' σ ρ' → B.Nodup → (∀ x ∈ B, ¬ F x) → (∀ x, F x → H' x = H x) → Ex (hid (SF F T) H) (hid (SF (FL F B) T') H') → Cels (hid (SF (FL F B) T') H') H' vs cs B → Q vs H') → ta σ H Q
def asList : PD → Option (List PD)
  | .list ds => some ds
  | _ => none
theorem asList_eq {d : PD} {ds : List PD} (h : asList d = some ds) : d = .list ds := by
  cases d with
  | list l => cases h; rfl
  | _ => cases h
def wOM (x : XE) : XWO := fun ρ => ((x (mk ρ)).bind asList).bind fun ds => some (ds.map Cel.dat, ρ)
theorem Cels.dats {G H : Hp} : ∀ {vs : List V} {ds : List PD}, RpAll G vs ds → Cels G H vs (ds.map Cel.dat) []
  | _, _, .nil => .nil
  | _, _, .cons h r => .dat h (Cels.dats r)
theorem swo_M {te : TE} {x : XE} (h : SEF te x) : SWO te (wOM x) := fun pn F T H σ ρ cs ρ' st e Q q => by
  obtain ⟨ds, h1, h2⟩ := bind_some e
  obtain ⟨d, h1, h3⟩ := bind_some h1
  cases h2
  have e := asList_eq h3
  subst e
  obtain ⟨ds', e', f⟩ := h _ _ h1
  cases e'
  refine f (SF F T) σ H st.als st.mkd Q fun p vs H2 e2 hp h2 ra => ?_
  obtain ⟨st2, vis⟩ := st.fresh e2 hp (by rw [h2]; exact fun z => nomatch z)
  refine q _ [p] T H2 st2 (by simp) (fun x hx => ?_) (Stp.ex (T := T) st.al e2).fr vis ⟨p, vs, [], rfl, h2, Cels.dats (by rw [SF_FL1]; exact ra), rfl⟩
  have ex : x = p := by simpa using hx
  rw [ex]
  exact st.al.new hp
def wcNil : XWC := fun ρ => some ([], ρ)
def wcDat (a : XW) (as : XWC) : XWC := fun ρ => (a ρ).bind fun x => (as x.2).bind fun xs => some (.dat x.1 :: xs.1, xs.2)
def allDat : List Cel → Option (List PD)
  | [] => some []
  | .dat d :: r => (allDat r).bind fun ds => some (d :: ds)
  | .sub _ :: _ => none
  | .hal _ :: _ => none
theorem allDat_map : ∀ ds : List PD, allDat (ds.map Cel.dat) = some ds
  | [] => rfl
  | d :: ds => by rw [List.map_cons, allDat, allDat_map ds]; rfl
theorem allDat_eq : ∀ {cs : List Cel} {ds : List PD}, allDat cs = some ds → cs = ds.map Cel.dat
  | [], ds, h => by cases h; rfl
  | .dat d :: r, ds, h => by
    obtain ⟨es, h1, h2⟩ := bind_some (show (allDat r).bind _ = some ds from h)
    cases h2
    rw [allDat_eq h1]
    rfl
  | .sub _ :: _, _, h => nomatch h
  | .hal _ :: _, _, h => nomatch h
def wcSub (a : XWO) (as : XWC) : XWC := fun ρ => (a ρ).bind fun x => (allDat x.1).bind fun ds => (as x.2).bind fun xs => some (.sub ds :: xs.1, xs.2)
theorem Cels.dats_inv {G H : Hp} : ∀ {vs : List V} {ds : List PD} {B : List Addr}, Cels G H vs (ds.map Cel.dat) B → RpAll G vs ds ∧ B = []
  | _, [], _, .nil => ⟨.nil, rfl⟩
  | _, d :: ds, _, .dat r c => ⟨.cons r (Cels.dats_inv c).1, (Cels.dats_inv c).2⟩
theorem swc_nil : SWC tNil wcNil := fun pn F T H σ ρ cs ρ' st e Q q => by
  cases e
  exact q [] [] T H (by rw [FL_nil]; exact st) (by simp) (fun x hx => nomatch hx) (fun _ _ => rfl) (by rw [FL_nil]; exact Ex.refl _) .nil
theorem swc_dat {ta : TE} {ts : TA} {a : XW} {as : XWC} (ha : SW ta a) (hs : SWC ts as) : SWC (tCons ta ts) (wcDat a as) := fun pn F T H σ ρ cs ρ' st e Q q => by
  obtain ⟨⟨x, ρ1⟩, h1, e⟩ := bind_some e
  obtain ⟨⟨xs, ρ2⟩, h2, e⟩ := bind_some e
  cases e
  exact ha pn F T H σ ρ x ρ1 st h1 _ fun v T1 H1 st1 s1 rv => hs pn F T1 H1 σ ρ1 xs ρ2 st1 h2 _ fun vs B T2 H2 st2 nd off fr vis c =>
    q (v :: vs) B T2 H2 st2 nd off (fun x hx => (fr x hx).trans (s1.fr x hx)) (s1.vis.trans vis) (.dat (rv.ex vis) c)
theorem swc_sub {ta : TE} {ts : TA} {a : XWO} {as : XWC} (ha : SWO ta a) (hs : SWC ts as) : SWC (tCons ta ts) (wcSub a as) := fun pn F T H σ ρ cs ρ' st e0 Q q => by
  obtain ⟨⟨x, ρ1⟩, h1, e1⟩ := bind_some e0
  obtain ⟨ds, hd, e2⟩ := bind_some e1
  obtain ⟨⟨xs, ρ2⟩, h2, e3⟩ := bind_some e2
  have e4 : some (Cel.sub ds :: xs, ρ2) = some (cs, ρ') := e3
  clear e0 e1 e2 e3
  obtain ⟨rfl, rfl⟩ := Prod.mk.inj (Option.some.inj e4)
  have ex : x = _ := allDat_eq hd
  subst ex
  refine ha pn F T H σ ρ _ ρ1 st h1 _ fun v A T1 H1 st1 nd off fr vis ow => ?_
  obtain ⟨b, ws, B0, rfl, hb, cb, rfl⟩ := ow
  obtain ⟨ra, rfl⟩ := cb.dats_inv
  refine hs pn (FL F [b]) T1 H1 σ ρ1 xs ρ2 st1 h2 _ fun vs B T2 H2 st2 nd2 off2 fr2 vis2 c => ?_
  have eF : FL (FL F [b]) B = FL F (b :: B) := FL_app
  rw [eF] at st2 vis2 c
  have hb2 : H2 b = some (.lst ws) := by rw [fr2 b (.inr (List.mem_cons_self ..))]; exact hb
  refine q (.ref b :: vs) (b :: B) T2 H2 st2 (List.nodup_cons.mpr ⟨fun z => off2 b z (.inr (List.mem_cons_self ..)), nd2⟩) (fun x hx => ?_) (fun x hx => (fr2 x (.inl hx)).trans (fr x hx)) (vis.trans vis2) (.sub hb2 (ra.ex vis2) c)
  rcases List.mem_cons.mp hx with z | z
  · rw [z]; exact off b (List.mem_cons_self ..)
  · exact fun w => off2 x z (.inl w)
def wOL (as : XWC) : XWO := fun ρ => (as ρ).bind fun x => if x.1.length ≤ 100000 then some x else none
theorem swo_lst {ts : TA} {as : XWC} (hs : SWC ts as) : SWO (tLst ts) (wOL as) := fun pn F T H σ ρ cs ρ' st e Q q => by
  obtain ⟨⟨xs, ρ1⟩, h1, e⟩ := bind_some e
  by_cases hl : xs.length ≤ 100000
  · rw [if_pos hl] at e
    cases e
    refine hs pn F T H σ ρ _ _ st h1 _ fun vs B T1 H1 st1 nd off fr vis c => ⟨by rw [c.length]; exact Evl.sz_of hl, fun p hp => ?_⟩
    obtain ⟨st2, vis2⟩ := st1.fresh (Ex.new (o := .lst vs) hp) hp (by rw [upd_same]; exact fun z => nomatch z)
    have eF : FL (FL F B) [p] = FL F (p :: B) := by
      rw [FL_app]
      exact FL_perm fun x => by simp [or_comm]
    rw [eF] at st2 vis2
    have npB : ∀ x ∈ B, x ≠ p := fun x hx z => by
      have := st1.al x (.inr hx)
      rw [z, hp] at this
      exact this rfl
    have npF : ∀ x, F x → x ≠ p := fun x hx z => by
      have := st1.al x (.inl hx)
      rw [z, hp] at this
      exact this rfl
    refine q (.ref p) (p :: B) T1 _ st2 (List.nodup_cons.mpr ⟨fun z => npB p z rfl, nd⟩) (fun x hx => ?_) (fun x hx => by rw [upd_ne (npF x hx)]; exact fr x hx) (vis.trans vis2) ⟨p, vs, B, rfl, upd_same, c.mv vis2 fun x hx => upd_ne (npB x hx), rfl⟩
    rcases List.mem_cons.mp hx with z | z
    · rw [z]; exact fun w => npF p w rfl
    · exact off x z
  · rw [if_neg hl] at e; cases e
end Uv

namespace Uv
open PySem PySem.Spec PyProof.Rows L2
open Evl (Ex)
variable [kk : KK]
inductive Out | nxt (ρ : Env) | ret (d : PD) (ρ : Env) | retO (cs : List Cel) (ρ : Env) | brk (ρ : Env) | cnt (ρ : Env)
abbrev XS := Env → Option Out
def OutOk (pn : Pn) (F : Hs) (T : Trs) (H : Hp) (D : Ends) : Out → Prop
  | .nxt ρ => ∀ σ T' H', StOk pn F T' H' σ ρ → Stp F T H T' H' → D.nx σ H'
  | .brk ρ => ∀ σ T' H', StOk pn F T' H' σ ρ → Stp F T H T' H' → D.bk σ H'
  | .cnt ρ => ∀ σ T' H', StOk pn F T' H' σ ρ → Stp F T H T' H' → D.ct σ H'
  | .ret d ρ => ∀ v σ T' H', StOk pn F T' H' σ ρ → Stp F T H T' H' → Rp (hid (SF F T') H') v d → D.rt v H'
  | .retO cs ρ => ∀ v A σ T' H', StOk pn (FL F A) T' H' σ ρ → A.Nodup → (∀ x ∈ A, ¬ F x) → (∀ x, F x → H' x = H x) → Ex (hid (SF F T) H) (hid (SF (FL F A) T') H') → Own (hid (SF (FL F A) T') H') H' v cs A → D.rt v H'
def SS (ts : TS) (x : XS) : Prop := ∀ pn F T H σ ρ o D, StOk pn F T H σ ρ → x ρ = some o → OutOk pn F T H D o → ts D σ H
theorem OutOk.step {pn : Pn} {F : Hs} {T T1 : Trs} {H H1 : Hp} {D : Ends} (s : Stp F T H T1 H1) : ∀ {o : Out}, OutOk pn F T H D o → OutOk pn F T1 H1 D o
  | .nxt _, h => fun σ T' H' st s' => h σ T' H' st (s.trans s')
  | .brk _, h => fun σ T' H' st s' => h σ T' H' st (s.trans s')
  | .cnt _, h => fun σ T' H' st s' => h σ T' H' st (s.trans s')
  | .ret _ _, h => fun v σ T' H' st s' => h v σ T' H' st (s.trans s')
  | .retO _ _, h => fun v A σ T' H' st nd off fr vis => h v A σ T' H' st nd off (fun x hx => (fr x hx).trans (s.fr x hx)) (s.vis.trans vis)
theorem OutOk.on {pn : Pn} {F : Hs} {T : Trs} {H : Hp} {D : Ends} {nx bk ct : L2.St → Hp → Prop} : ∀ {o : Out}, (∀ ρ, o ≠ .nxt ρ) → (∀ ρ, o ≠ .brk ρ) → (∀ ρ, o ≠ .cnt ρ) → OutOk pn F T H D o → OutOk pn F T H { D with nx := nx, bk := bk, ct := ct } o
  | .nxt _, h, _, _, _ => absurd rfl (h _)
  | .brk _, _, h, _, _ => absurd rfl (h _)
  | .cnt _, _, _, h, _ => absurd rfl (h _)
  | .ret _ _, _, _, _, h => h
  | .retO _ _, _, _, _, h => h
def sNext : XS := fun ρ => some (.nxt ρ)
def sSeq (x y : XS) : XS := fun ρ => (x ρ).bind fun o => match o with
  | .nxt ρ1 => y ρ1
  | o => some o
def sRet (w : XW) : XS := fun ρ => (w ρ).bind fun x => some (.ret x.1 x.2)
def sRetO (w : XWO) : XS := fun ρ => (w ρ).bind fun x => some (.retO x.1 x.2)
def sIf (c : XWT) (x y : XS) : XS := fun ρ => (c ρ).bind fun k => if k.1 = true then x k.2 else y k.2
def sAsg (g : XG) (w : XW) : XS := fun ρ => (w ρ).bind fun x => (g x.1 x.2).bind fun ρ1 => some (.nxt ρ1)
def sOwn (i : Nat) (w : XWO) : XS := fun ρ => (w ρ).bind fun x => if i < x.2.length then some (.nxt (x.2.set i (.own x.1))) else none
def toSl : Cel → Sl
  | .dat d => .dat d
  | .sub ds => .own (ds.map Cel.dat)
  | .hal h => .hal 1000 h
def two : List Cel → Option (Cel × Cel)
  | [c, e] => some (c, e)
  | _ => none
theorem two_eq {cs : List Cel} {c e : Cel} (h : two cs = some (c, e)) : cs = [c, e] := by
  unfold two at h
  split at h
  · cases h; rfl
  · cases h
def sPar (i j : Nat) (as : XWC) : XS := fun ρ => (as ρ).bind fun x => (two x.1).bind fun c => if i < x.2.length ∧ j < x.2.length then some (.nxt ((x.2.set i (toSl c.1)).set j (toSl c.2))) else none
section
variable {te : TE} {t u : TS} {ct : TT} {x y : XS} {w : XW} {c : XWT}
theorem ss_next : SS tNext sNext := fun pn F T H σ ρ o D st e q => by cases e; exact q σ T H st Stp.refl
theorem ss_seq (hx : SS t x) (hy : SS u y) : SS (tSeq t u) (sSeq x y) := fun pn F T H σ ρ o D st e q => by
  obtain ⟨o1, h1, e⟩ := bind_some e
  cases o1 with
  | nxt ρ1 => exact hx pn F T H σ ρ _ { D with nx := u D } st h1 fun σ2 T2 H2 st2 s2 => hy pn F T2 H2 σ2 ρ1 o D st2 e (q.step s2)
  | ret d ρ1 => cases e; exact hx pn F T H σ ρ _ { D with nx := u D } st h1 q
  | retO d ρ1 => cases e; exact hx pn F T H σ ρ _ { D with nx := u D } st h1 q
  | brk ρ1 => cases e; exact hx pn F T H σ ρ _ { D with nx := u D } st h1 q
  | cnt ρ1 => cases e; exact hx pn F T H σ ρ _ { D with nx := u D } st h1 q
theorem ss_ret (h : SW te w) : SS (tRet te) (sRet w) := fun pn F T H σ ρ o D st e q => by
  obtain ⟨⟨d, ρ1⟩, h1, e⟩ := bind_some e
  cases e
  exact h pn F T H σ ρ d ρ1 st h1 _ fun v T' H' st' s' rv => q v σ T' H' st' s' rv
theorem ss_retO {w : XWO} (h : SWO te w) : SS (tRet te) (sRetO w) := fun pn F T H σ ρ o D st e q => by
  obtain ⟨⟨d, ρ1⟩, h1, e⟩ := bind_some e
  cases e
  exact h pn F T H σ ρ d ρ1 st h1 _ fun v A T' H' st' nd off fr vis ow => q v A σ T' H' st' nd off fr vis ow
theorem ss_if (hc : SWT ct c) (hx : SS t x) (hy : SS u y) : SS (tIfS ct t u) (sIf c x y) := fun pn F T H σ ρ o D st e q => by
  obtain ⟨⟨k, ρ1⟩, h1, e⟩ := bind_some e
  refine hc pn F T H σ ρ k ρ1 st h1 _ fun T1 H1 st1 s1 => ?_
  cases k with
  | true => exact hx pn F T1 H1 σ ρ1 o D st1 e (q.step s1)
  | false => exact hy pn F T1 H1 σ ρ1 o D st1 e (q.step s1)
theorem ss_asg {g : TG} {xg : XG} {vs : List Nat} (hg : SG false g xg vs) (h : SW te w) : SS (tAsg te g) (sAsg xg w) := fun pn F T H σ ρ o D st e q => by
  obtain ⟨⟨d, ρ1⟩, h1, e⟩ := bind_some e
  obtain ⟨ρ2, h2, e⟩ := bind_some e
  cases e
  exact h pn F T H σ ρ d ρ1 st h1 _ fun v T1 H1 st1 s1 rv => hg pn F T1 H1 σ v d ρ1 ρ2 st1 h2 (.inl rv) _ fun σ' T' st' s' _ => q σ' T' H1 st' (s1.trans s')
theorem ss_own {i : Nat} {w : XWO} (hi : i ≠ 0) (h : SWO te w) : SS (tAsg te (gName i)) (sOwn i w) := fun pn F T H σ ρ o D st e q => by
  obtain ⟨⟨cs, ρ1⟩, h1, e⟩ := bind_some e
  by_cases c : i < ρ1.length
  · rw [if_pos c] at e
    cases e
    refine h pn F T H σ ρ cs ρ1 st h1 _ fun v A T' H' st' nd off fr vis ow => ?_
    obtain ⟨st2, vis2⟩ := st'.own hi c ow nd off
    exact q _ _ H' st2 ⟨fr, vis.trans vis2⟩
  · rw [if_neg c] at e; cases e
theorem StOk.cel {pn : Pn} {F : Hs} {T : Trs} {H : Hp} {σ : L2.St} {ρ : Env} {i : Nat} {v : V} {c : Cel} {B : List Addr} (hi : i ≠ 0) (hl : i < ρ.length) (st : StOk pn (FL F B) T H σ ρ) (nd : B.Nodup) (off : ∀ x ∈ B, ¬ F x) (hc : Cels (hid (SF (FL F B) T) H) H [v] [c] B) :
    ∃ T', StOk pn F T' H (σ.set i (some v)) (ρ.set i (toSl c)) ∧ Ex (hid (SF (FL F B) T) H) (hid (SF F T') H) := by
  cases hc with
  | dat r n =>
    cases n
    rw [FL_nil] at st r ⊢
    obtain ⟨st', s⟩ := st.set hi r
    exact ⟨_, st', s.vis⟩
  | sub hb r n =>
    cases n
    obtain ⟨st', vis⟩ := st.own (i := i) hi hl ⟨_, _, [], rfl, hb, Cels.dats r, rfl⟩ nd off
    exact ⟨_, st', vis⟩
  | hal o n =>
    cases n
    rw [List.append_nil] at *
    obtain ⟨st', vis⟩ := st.halN (i := i) hi hl (Nat.le_refl 1000) o nd off
    exact ⟨_, st', vis⟩
theorem ss_par {i j : Nat} {ts : TA} {as : XWC} (hi : i ≠ 0) (hj : j ≠ 0) (hs : SWC ts as) : SS (tPar i j ts) (sPar i j as) := fun pn F T H σ ρ o D st e q => by
  obtain ⟨⟨cs, ρ1⟩, h1, e⟩ := bind_some e
  obtain ⟨⟨c, d⟩, h2, e⟩ := bind_some e
  have ec : cs = _ := two_eq h2
  subst ec
  · skip
    by_cases hl : i < ρ1.length ∧ j < ρ1.length
    · rw [if_pos hl] at e
      cases e
      refine hs pn F T H σ ρ _ ρ1 st h1 _ fun vs B T1 H1 st1 nd off fr vis hc => ?_
      obtain ⟨v, w, rfl⟩ : ∃ v w, vs = [v, w] := by
        have := hc.length
        match vs, this with
        | [v, w], _ => exact ⟨v, w, rfl⟩
      refine ⟨v, w, rfl, ?_⟩
      -- split the addresses
      have split : ∃ B1 B2, B = B1 ++ B2 ∧ Cels (hid (SF (FL F B) T1) H1) H1 [v] [c] B1 ∧ Cels (hid (SF (FL F B) T1) H1) H1 [w] [d] B2 := by
        cases hc with
        | dat r n => exact ⟨[], B, rfl, .dat r .nil, n⟩
        | sub hb r n => exact ⟨[_], _, rfl, .sub hb r .nil, n⟩
        | hal o n => exact ⟨_, _, rfl, by simpa using Cels.hal o Cels.nil, n⟩
      obtain ⟨B1, B2, rfl, c1, c2⟩ := split
      have eF : FL F (B1 ++ B2) = FL (FL F B2) B1 := by rw [FL_app]; exact FL_perm fun x => by simp [or_comm]
      rw [eF] at st1 c1 c2 vis
      have nds := List.nodup_append.mp nd
      obtain ⟨T2, st2, vis2⟩ := StOk.cel (F := FL F B2) hi hl.1 st1 nds.1 (fun x hx z => z.elim (off x (List.mem_append_left _ hx)) fun z => nds.2.2 x hx x z rfl) c1
      have c2' := c2.mv vis2 fun x hx => (rfl : H1 x = H1 x)
      obtain ⟨T3, st3, vis3⟩ := StOk.cel (F := F) hj (by rw [List.length_set]; exact hl.2) st2 nds.2.1 (fun x hx => off x (List.mem_append_right _ hx)) c2'
      exact q _ T3 H1 st3 ⟨fr, (vis.trans vis2).trans vis3⟩
    · rw [if_neg hl] at e; cases e
end
section
variable {G H : Hp}
theorem Cels.set : ∀ (n : Nat) {vs : List V} {cs : List Cel} {B : List Addr} {v : V} {d d0 : PD}, Cels G H vs cs B → cs[n]? = some (.dat d0) → Rp G v d → Cels G H (vs.set n v) (cs.set n (.dat d)) B
  | _, _, _, _, _, _, _, .nil, h, _ => by simp at h
  | 0, _, _, _, _, _, _, .dat _ c, _, r => by simpa using Cels.dat r c
  | 0, _, _, _, _, _, _, .sub _ _ c, h, r => by simp at h
  | 0, _, _, _, _, _, _, .hal _ c, h, r => by simp at h
  | n + 1, _, _, _, _, _, _, .dat h0 c, h, r => by simpa using Cels.dat h0 (c.set n (by simpa using h) r)
  | n + 1, _, _, _, _, _, _, .sub h1 h2 c, h, r => by simpa using Cels.sub h1 h2 (c.set n (by simpa using h) r)
  | n + 1, _, _, _, _, _, _, .hal o c, h, r => by simpa using Cels.hal o (c.set n (by simpa using h) r)
theorem Cels.inner : ∀ (n : Nat) {vs : List V} {cs : List Cel} {B : List Addr} {ds : List PD}, Cels G H vs cs B → B.Nodup → cs[n]? = some (.sub ds) → ∃ b ws, vs[n]? = some (.ref b) ∧ b ∈ B ∧ H b = some (.lst ws) ∧ RpAll G ws ds ∧
    ∀ (ws' : List V) (ds' : List PD), RpAll G ws' ds' → Cels G (upd H b (.lst ws')) vs (cs.set n (.sub ds')) B
  | _, _, _, _, _, .nil, _, h => by simp at h
  | 0, _, _, _, _, .dat _ c, _, h => by simp at h
  | 0, _, _, _, _, .hal _ c, _, h => by simp at h
  | n + 1, _, _, _, _, .hal (A := A0) o c, nd, h => by
    have nds := List.nodup_append.mp nd
    obtain ⟨b, ws, e1, e2, e3, e4, f⟩ := c.inner n nds.2.1 (by simpa using h)
    exact ⟨b, ws, by simpa using e1, List.mem_append_right _ e2, e3, e4, fun ws' ds' r' => by simpa using Cels.hal (o.mv (Ex.refl _) fun x hx => upd_ne fun z => nds.2.2 x hx b e2 z) (f ws' ds' r')⟩
  | 0, _, _, _, _, .sub (b := b) hb r c, nd, h => by
    cases Option.some.inj (show some (Cel.sub _) = some (Cel.sub _) from h)
    refine ⟨_, _, rfl, List.mem_cons_self .., hb, r, fun ws' ds' r' => ?_⟩
    have hn := (List.nodup_cons.mp nd).1
    simpa using Cels.sub upd_same r' (c.mv (Ex.refl _) fun x hx => upd_ne fun z => hn (by rw [← z]; exact hx))
  | n + 1, _, _, _, _, .dat h0 c, nd, h => by
    obtain ⟨b, ws, e1, e2, e3, e4, f⟩ := c.inner n nd (by simpa using h)
    exact ⟨b, ws, by simpa using e1, e2, e3, e4, fun ws' ds' r' => by simpa using Cels.dat h0 (f ws' ds' r')⟩
  | n + 1, _, _, _, _, .sub (b := b0) h1 h2 c, nd, h => by
    obtain ⟨hn, nd'⟩ := List.nodup_cons.mp nd
    obtain ⟨b, ws, e1, e2, e3, e4, f⟩ := c.inner n nd' (by simpa using h)
    exact ⟨b, ws, by simpa using e1, List.mem_cons_of_mem _ e2, e3, e4, fun ws' ds' r' => by simpa using Cels.sub (by rw [upd_ne fun z => hn (by rw [z]; exact e2)]; exact h1) h2 (f ws' ds' r')⟩
end
section
variable {pn : Pn} {F : Hs} {T : Trs} {H : Hp} {σ : L2.St} {ρ : Env}
theorem StOk.writeSub (st : StOk pn F T H σ ρ) {i n : Nat} {cs : List Cel} {ds ds' : List PD} (hi : ρ[i]? = some (.own cs)) (hn : cs[n]? = some (.sub ds)) : ∃ a vs b ws, σ[i]? = some (some (.ref a)) ∧ H a = some (.lst vs) ∧ vs[n]? = some (.ref b) ∧ vs.length = cs.length ∧ H b = some (.lst ws) ∧ RpAll (hid (SF F T) H) ws ds ∧
    ∀ ws' ds', RpAll (hid (SF F T) H) ws' ds' → StOk pn F T (upd H b (.lst ws')) σ (ρ.set i (.own (cs.set n (.sub ds')))) ∧ Stp F T H T (upd H b (.lst ws')) := by
  obtain ⟨a, vs, B, h1, h2, h3, h4⟩ := st.at_own hi
  have ndA := st.nd i
  rw [h4] at ndA
  obtain ⟨haB, ndB⟩ := List.nodup_cons.mp ndA
  obtain ⟨b, ws, e1, e2, e3, e4, f⟩ := h3.inner n ndB hn
  refine ⟨a, vs, b, ws, h1, h2, e1, h3.length, e3, e4, fun ws' ds' r' => ?_⟩
  have hb : b ∈ T i := by rw [h4]; exact List.mem_cons_of_mem _ e2
  have hS : SF F T b := .inr ⟨i, hb⟩
  have vis : Ex (hid (SF F T) H) (hid (SF F T) (upd H b (.lst ws'))) := fun x o h => by
    obtain ⟨c, h⟩ := hid_some h
    rw [hid_out c, upd_ne (fun z => c (by rw [z]; exact hS))]
    exact h
  have ne : ∀ x, x ≠ b → upd H b (.lst ws') x = H x := fun x h => upd_ne h
  refine ⟨⟨by rw [List.length_set]; exact st.len, fun x h => ?_, st.off, st.dis, st.nd, fun j hj => st.out j (by rw [List.length_set] at hj; exact hj), fun j q hq => ?_, st.pin⟩, ⟨fun x h => ne x fun z => st.off i b hb (by rw [← z]; exact h), vis⟩⟩
  · rw [ne x fun z => st.off i b hb (by rw [← z]; exact h)]
    exact st.al x h
  · by_cases c : i = j
    · subst c
      have hl : i < ρ.length := (List.getElem?_eq_some_iff.mp hi).1
      rw [List.getElem?_set_self hl] at hq
      cases hq
      refine ⟨_, h1, .ref a, rfl, a, vs, B, rfl, by rw [ne a fun z => haB (by rw [z]; exact e2)]; exact h2, (f ws' ds' r').mv vis fun x _ => rfl, h4⟩
    · rw [List.getElem?_set_ne c] at hq
      obtain ⟨o', h5, h6⟩ := st.sl j q hq
      exact ⟨o', h5, h6.mv vis fun x hx => ne x fun z => c (st.dis i j b hb (by rw [← z]; exact hx))⟩
end
def isI : PD → Option Int
  | .int i => some i
  | _ => none
theorem isI_eq {d : PD} {i : Int} (h : isI d = some i) : d = .int i := by
  cases d with
  | int c => cases h; rfl
  | _ => cases h
def datAt (cs : List Cel) (n : Nat) : Option PD := match cs[n]? with
  | some (.dat d) => some d
  | _ => none
theorem datAt_eq {cs : List Cel} {n : Nat} {d : PD} (h : datAt cs n = some d) : cs[n]? = some (.dat d) := by
  unfold datAt at h
  split at h
  · rename_i e; cases h; exact e
  · cases h
def subAt (cs : List Cel) (n : Nat) : Option (List PD) := match cs[n]? with
  | some (.sub d) => some d
  | _ => none
theorem subAt_eq {cs : List Cel} {n : Nat} {d : List PD} (h : subAt cs n = some d) : cs[n]? = some (.sub d) := by
  unfold subAt at h
  split at h
  · rename_i e; cases h; exact e
  · cases h
def sSet (i : Nat) (k : XE) (a : XW) : XS := fun ρ => (a ρ).bind fun x => (ownAt x.2 i).bind fun cs => ((k (vw x.2)).bind isI).bind fun k => (ixN cs.length k).bind fun n => (datAt cs n).bind fun _ => some (.nxt (x.2.set i (.own (cs.set n (.dat x.1)))))
def sSetS (i : Nat) (k j : XE) (a : XW) : XS := fun ρ => (a ρ).bind fun x => (ownAt x.2 i).bind fun cs => ((k (vw x.2)).bind isI).bind fun k => (ixN cs.length k).bind fun n => (subAt cs n).bind fun ds => ((j (vw x.2)).bind isI).bind fun j => (ixN ds.length j).bind fun m => some (.nxt (x.2.set i (.own (cs.set n (.sub (ds.set m x.1))))))
def sPopS (i : Nat) (k j : XE) : XS := fun ρ => (ownAt ρ i).bind fun cs => ((k (vw ρ)).bind isI).bind fun k => (ixN cs.length k).bind fun n => (subAt cs n).bind fun ds => ((j (vw ρ)).bind isI).bind fun j => if -(2 ^ 63) ≤ j ∧ j < 2 ^ 63 then (ixN ds.length j).bind fun m => some (.nxt (ρ.set i (.own (cs.set n (.sub (ds.eraseIdx m)))))) else none
section
variable {te tk tj : TE} {w : XW} {k j : XE}
theorem RpAll.erase {G : Hp} : ∀ {vs : List V} {ds : List PD} (n : Nat), RpAll G vs ds → RpAll G (vs.eraseIdx n) (ds.eraseIdx n)
  | _, _, _, .nil => by simpa using RpAll.nil
  | _, _, 0, .cons _ r => by simpa using r
  | _, _, n + 1, .cons h r => by simpa using RpAll.cons h (r.erase n)
theorem ss_set {i : Nat} (hk : SE tk k) (h : SW te w) : SS (tAsg te (gSub (tVar i) tk rSetL)) (sSet i k w) := fun pn F T H σ ρ o D st e q => by
  obtain ⟨⟨d, ρ1⟩, h1, e⟩ := bind_some e
  obtain ⟨cs, h2, e⟩ := bind_some e
  obtain ⟨kk, h3, e⟩ := bind_some e
  obtain ⟨dk, h3, h4⟩ := bind_some h3
  obtain ⟨n, hn, e⟩ := bind_some e
  obtain ⟨d0, hd, e⟩ := bind_some e
  cases e
  have ed : dk = _ := isI_eq h4
  subst ed
  refine h pn F T H σ ρ d ρ1 st h1 _ fun v T1 H1 st1 s1 rv => ?_
  obtain ⟨a', vs', B', ha', hv', hc', hT⟩ := st1.at_own (ownAt_eq h2)
  refine ⟨.ref a', ha', hk _ _ h3 F σ H1 st1.al st1.vw _ fun vk H2 e2 rk => ?_⟩
  cases rk
  have st2 := st1.ex e2
  have s2 : Stp F T1 H1 T1 H2 := Stp.ex st1.al e2
  obtain ⟨a2, vs2, B2, ha2, hv2, hc2, hT2⟩ := st2.at_own (ownAt_eq h2)
  have ea : a2 = a' := by rw [ha2] at ha'; cases ha'; rfl
  subst ea
  obtain ⟨st3, s3⟩ := st2.write (ownAt_eq h2) hT2 ha2 (hc2.set n (datAt_eq hd) (rv.ex s2.vis))
  exact ⟨a2, vs2, kk, n, rfl, rfl, hv2, by rw [hc2.length]; exact hn, q σ T1 _ st3 ((s1.trans s2).trans s3)⟩
theorem ix_sub {pn : Pn} {F : Hs} {T : Trs} {H : Hp} {σ : L2.St} {ρ : Env} (st : StOk pn F T H σ ρ) {i n : Nat} {cs : List Cel} {ds : List PD} {kk : Int} (hi : ρ[i]? = some (.own cs)) (hn : ixN cs.length kk = some n) (hs : cs[n]? = some (.sub ds)) (hk : SE tk k) (h3 : k (vw ρ) = some (.int kk)) {Q : VK}
    (q : ∀ b H2, Ex H H2 → (∃ a vs, σ[i]? = some (some (.ref a)) ∧ H2 a = some (.lst vs) ∧ vs[n]? = some (.ref b)) → Q (.ref b) H2) : tOp (rIx K) (tVar i) tk σ H Q := by
  obtain ⟨a, vs, b, ws, g1, g2, g3, g4, g5, g6, f⟩ := st.writeSub (ds' := ds) hi hs
  refine ⟨.ref a, g1, hk _ _ h3 F σ H st.al st.vw _ fun vk H2 e2 rk => ?_⟩
  cases rk
  refine .inl ⟨a, vs, kk, .ref b, rfl, rfl, .inl (.inl (e2 _ _ g2)), ?_, q b H2 e2 ⟨a, vs, g1, e2 _ _ g2, g3⟩⟩
  unfold atI
  rw [g4, hn]
  exact g3
theorem ss_setS {i : Nat} (hk : SE tk k) (hj : SE tj j) (h : SW te w) : SS (tAsg te (gSub (tOp (rIx K) (tVar i) tk) tj rSetL)) (sSetS i k j w) := fun pn F T H σ ρ o D st e q => by
  obtain ⟨⟨d, ρ1⟩, h1, e⟩ := bind_some e
  obtain ⟨cs, h2, e⟩ := bind_some e
  obtain ⟨kk, h3, e⟩ := bind_some e
  obtain ⟨dk, h3, h4⟩ := bind_some h3
  obtain ⟨n, hn, e⟩ := bind_some e
  obtain ⟨ds, hd, e⟩ := bind_some e
  obtain ⟨jj, h5, e⟩ := bind_some e
  obtain ⟨dj, h5, h6⟩ := bind_some h5
  obtain ⟨m, hm, e⟩ := bind_some e
  cases e
  have ed : dk = _ := isI_eq h4
  subst ed
  have ed : dj = _ := isI_eq h6
  subst ed
  refine h pn F T H σ ρ d ρ1 st h1 _ fun v T1 H1 st1 s1 rv => ?_
  refine ix_sub st1 (ownAt_eq h2) hn (subAt_eq hd) hk h3 fun b H2 e2 hb => ?_
  have st2 := st1.ex e2
  have s2 : Stp F T1 H1 T1 H2 := Stp.ex st1.al e2
  refine hj _ _ h5 F σ H2 st2.al st2.vw _ fun vj H3 e3 rj => ?_
  cases rj
  have st3 := st2.ex e3
  have s3 : Stp F T1 H2 T1 H3 := Stp.ex st2.al e3
  obtain ⟨a, vs, b', ws, g1, g2, g3, g4, g5, g6, f⟩ := st3.writeSub (ds' := ds) (ownAt_eq h2) (subAt_eq hd)
  obtain ⟨a2, vs2, k1, k2, k3⟩ := hb
  have ea : a2 = a := by rw [k1] at g1; cases g1; rfl
  subst ea
  have ev : vs2 = vs := by have := e3 _ _ k2; rw [this] at g2; cases g2; rfl
  subst ev
  have eb : b' = b := by rw [k3] at g3; cases g3; rfl
  subst eb
  obtain ⟨st4, s4⟩ := f (ws.set m v) (ds.set m d) (g6.set m ((rv.ex s2.vis).ex s3.vis))
  exact ⟨b', ws, jj, m, rfl, rfl, g5, by rw [g6.length]; exact hm, q σ T1 _ st4 (((s1.trans s2).trans s3).trans s4)⟩
theorem ss_popS {i : Nat} (hk : SE tk k) (hj : SE tj j) : SS (tDrop (tBM K "list" rPopAt (tOp (rIx K) (tVar i) tk) (tCons tj tNil))) (sPopS i k j) := fun pn F T H σ ρ o D st e q => by
  obtain ⟨cs, h2, e⟩ := bind_some e
  obtain ⟨kk, h3, e⟩ := bind_some e
  obtain ⟨dk, h3, h4⟩ := bind_some h3
  obtain ⟨n, hn, e⟩ := bind_some e
  obtain ⟨ds, hd, e⟩ := bind_some e
  obtain ⟨jj, h5, e⟩ := bind_some e
  obtain ⟨dj, h5, h6⟩ := bind_some h5
  by_cases hl : -(2 ^ 63) ≤ jj ∧ jj < 2 ^ 63
  · rw [if_pos hl] at e
    obtain ⟨m, hm, e⟩ := bind_some e
    cases e
    have ed : dk = _ := isI_eq h4
    subst ed
    have ed : dj = _ := isI_eq h6
    subst ed
    refine ix_sub st (ownAt_eq h2) hn (subAt_eq hd) hk h3 fun b H2 e2 hb => ?_
    have st2 := st.ex e2
    have s2 : Stp F T H T H2 := Stp.ex st.al e2
    obtain ⟨a, vs, b', ws, g1, g2, g3, g4, g5, g6, f⟩ := st2.writeSub (ds' := ds) (ownAt_eq h2) (subAt_eq hd)
    obtain ⟨a2, vs2, k1, k2, k3⟩ := hb
    have ea : a2 = a := by rw [k1] at g1; cases g1; rfl
    subst ea
    have ev : vs2 = vs := by rw [k2] at g2; cases g2; rfl
    subst ev
    have eb : b' = b := by rw [k3] at g3; cases g3; rfl
    subst eb
    refine ⟨.inl ⟨rfl, _, .inl (.inl g5)⟩, hj _ _ h5 F σ H2 st2.al st2.vw _ fun vj H3 e3 rj => ?_⟩
    cases rj
    have st3 := st2.ex e3
    have s3 : Stp F T H2 T H3 := Stp.ex st2.al e3
    clear f
    obtain ⟨a7, vs7, b7, ws7, u1, u2, u3, u4, u5, u6, f7⟩ := st3.writeSub (ds' := ds) (ownAt_eq h2) (subAt_eq hd)
    have ea : a7 = a2 := by rw [k1] at u1; cases u1; rfl
    subst ea
    have ev : vs7 = vs2 := by have := e3 _ _ k2; rw [this] at u2; cases u2; rfl
    subst ev
    have eb : b7 = b' := by rw [k3] at u3; cases u3; rfl
    subst eb
    obtain ⟨st4, s4⟩ := f7 (ws7.eraseIdx m) (ds.eraseIdx m) (u6.erase m)
    have hm' : ixN ws7.length jj = some m := by rw [u6.length]; exact hm
    obtain ⟨q1, q2, _, _⟩ := ixN_seq hm'
    exact ⟨b7, ws7, jj, m, ws7[m], rfl, rfl, u5, hl.1, hl.2, q1, List.getElem?_eq_getElem q2, q σ T _ st4 ((s2.trans s3).trans s4)⟩
  · rw [if_neg hl] at e; cases e
end
end Uv

namespace Uv
open PySem PySem.Spec PyProof.Rows L2
open Evl (Ex)
variable [kk : KK]
def forGo (g : XG) (b : XS) : List PD → Env → Option Out
  | [], ρ => some (.nxt ρ)
  | x :: xs, ρ => (g x ρ).bind fun ρ1 => (b ρ1).bind fun o => match o with
    | .nxt ρ2 => forGo g b xs ρ2
    | .cnt ρ2 => forGo g b xs ρ2
    | .brk ρ2 => some (.nxt ρ2)
    | .ret d ρ2 => some (.ret d ρ2)
    | .retO d ρ2 => some (.retO d ρ2)
def sFor (src : XWI) (g : XG) (b : XS) : XS := fun ρ => (src ρ).bind fun x => forGo g b x.1 x.2
theorem ss_for {bb : Bool} {wi : TI} {g : TG} {tb : TS} {vs : List Nat} {src : XWI} {xg : XG} {b : XS} (hs : SWI bb wi src) (hg : SG bb g xg vs) (hb : SS tb b) : SS (tFor wi g tb) (sFor src xg b) := fun pn F T H σ ρ o D st e q => by
  obtain ⟨⟨xs, ρ1⟩, h1, e⟩ := bind_some e
  have e : forGo xg b xs ρ1 = some o := e
  refine hs pn F T H σ ρ xs ρ1 st h1 _ fun J T1 H1 st1 s1 wk => ?_
  refine ⟨fun i m σ' H' => m = xs.length - i ∧ i ≤ xs.length ∧ ∃ T' ρ', StOk pn F T' H' σ' ρ' ∧ Stp F T1 H1 T' H' ∧ forGo xg b (xs.drop i) ρ' = some o, ⟨_, rfl, Nat.zero_le _, T1, ρ1, st1, Stp.refl, e⟩, fun i m σ' H' hw => ?_⟩
  obtain ⟨rfl, hi, T', ρ', st', s', hgo⟩ := hw
  obtain ⟨w1, w2⟩ := wk _ H' s'.vis st'.als
  by_cases hlt : i < xs.length
  · obtain ⟨w3, w4⟩ := w2 i _ (List.getElem?_eq_getElem hlt)
    rw [List.drop_eq_getElem_cons hlt] at hgo
    obtain ⟨ρ2, g1, hgo⟩ := bind_some (show (xg xs[i] ρ').bind _ = some o from hgo)
    obtain ⟨o2, b1, hgo⟩ := bind_some hgo
    refine .inr ⟨w3, fun σ2 H2 => ∃ T2 ρ2, StOk pn F T2 H2 σ2 ρ2 ∧ Stp F T1 H1 T2 H2 ∧ forGo xg b (xs.drop (i + 1)) ρ2 = some o, fun σ2 H2 hn => ⟨_, by omega, rfl, hlt, hn⟩, fun v H3 y => ?_⟩
    obtain ⟨e3, rv⟩ := w4 v H3 y
    have st3 := st'.ex e3
    have s3 : Stp F T' H' T' H3 := Stp.ex st'.al e3
    refine hg pn F T' H3 σ' v _ ρ' ρ2 st3 g1 rv _ fun σ4 T4 st4 s4 _ => ?_
    have s14 := (s'.trans s3).trans s4
    cases o2 with
    | nxt ρ5 => exact hb pn F T4 H3 σ4 ρ2 _ _ st4 b1 fun σ5 T5 H5 st5 s5 => ⟨T5, ρ5, st5, s14.trans s5, hgo⟩
    | cnt ρ5 => exact hb pn F T4 H3 σ4 ρ2 _ _ st4 b1 fun σ5 T5 H5 st5 s5 => ⟨T5, ρ5, st5, s14.trans s5, hgo⟩
    | brk ρ5 =>
      cases hgo
      exact hb pn F T4 H3 σ4 ρ2 _ _ st4 b1 fun σ5 T5 H5 st5 s5 => q σ5 T5 H5 st5 (s1.trans (s14.trans s5))
    | ret d ρ5 =>
      cases hgo
      exact hb pn F T4 H3 σ4 ρ2 _ _ st4 b1 (OutOk.on (fun _ z => nomatch z) (fun _ z => nomatch z) (fun _ z => nomatch z) (q.step (s1.trans s14)))
    | retO d ρ5 =>
      cases hgo
      exact hb pn F T4 H3 σ4 ρ2 _ _ st4 b1 (OutOk.on (fun _ z => nomatch z) (fun _ z => nomatch z) (fun _ z => nomatch z) (q.step (s1.trans s14)))
  · have ei : i = xs.length := by omega
    subst ei
    rw [List.drop_length] at hgo
    cases hgo
    exact .inl ⟨w1, q σ' T' H' st' (s1.trans s')⟩
def whGo (c : XWT) (b : XS) : Nat → Env → Option Out
  | 0, _ => none
  | n + 1, ρ => (c ρ).bind fun k => if k.1 = true then (b k.2).bind fun o => match o with
    | .nxt ρ2 => whGo c b n ρ2
    | .cnt ρ2 => whGo c b n ρ2
    | .brk ρ2 => some (.nxt ρ2)
    | .ret d ρ2 => some (.ret d ρ2)
    | .retO d ρ2 => some (.retO d ρ2)
    else some (.nxt k.2)
def fuel : Nat := 100000
theorem fuel_lt {k : Nat} (h : k < 100000) : k < fuel := h
def sWhile (n : Nat) (c : XWT) (b : XS) : XS := whGo c b n
theorem ss_while {n : Nat} {ct : TT} {tb : TS} {c : XWT} {b : XS} (hc : SWT ct c) (hb : SS tb b) : SS (tWhile ct tb) (sWhile n c b) := fun pn F T H σ ρ o D st e q => by
  refine ⟨fun m σ' H' => ∃ T' ρ', StOk pn F T' H' σ' ρ' ∧ Stp F T H T' H' ∧ whGo c b m ρ' = some o, ⟨n, T, ρ, st, Stp.refl, e⟩, fun m σ' H' hw => ?_⟩
  obtain ⟨T', ρ', st', s', hgo⟩ := hw
  cases m with
  | zero => cases hgo
  | succ m =>
    obtain ⟨⟨k, ρ1⟩, h1, hgo⟩ := bind_some (show (c ρ').bind _ = some o from hgo)
    refine hc pn F T' H' σ' ρ' k ρ1 st' h1 _ fun T1 H1 st1 s1 => ?_
    cases k with
    | false => cases hgo; exact iteF (q σ' T1 H1 st1 (s'.trans s1))
    | true =>
      obtain ⟨o2, b1, hgo⟩ := bind_some (show (b ρ1).bind _ = some o from hgo)
      refine iteT ⟨fun σ2 H2 => ∃ T2 ρ2, StOk pn F T2 H2 σ2 ρ2 ∧ Stp F T H T2 H2 ∧ whGo c b m ρ2 = some o, fun σ2 H2 hn => ⟨m, Nat.lt_succ_self _, hn⟩, ?_⟩
      have s2 := s'.trans s1
      cases o2 with
      | nxt ρ5 => exact hb pn F T1 H1 σ' ρ1 _ _ st1 b1 fun σ5 T5 H5 st5 s5 => ⟨T5, ρ5, st5, s2.trans s5, hgo⟩
      | cnt ρ5 => exact hb pn F T1 H1 σ' ρ1 _ _ st1 b1 fun σ5 T5 H5 st5 s5 => ⟨T5, ρ5, st5, s2.trans s5, hgo⟩
      | brk ρ5 =>
        cases hgo
        exact hb pn F T1 H1 σ' ρ1 _ _ st1 b1 fun σ5 T5 H5 st5 s5 => q σ5 T5 H5 st5 (s2.trans s5)
      | ret d ρ5 =>
        cases hgo
        exact hb pn F T1 H1 σ' ρ1 _ _ st1 b1 (OutOk.on (fun _ z => nomatch z) (fun _ z => nomatch z) (fun _ z => nomatch z) (q.step s2))
      | retO d ρ5 =>
        cases hgo
        exact hb pn F T1 H1 σ' ρ1 _ _ st1 b1 (OutOk.on (fun _ z => nomatch z) (fun _ z => nomatch z) (fun _ z => nomatch z) (q.step s2))
def fzE (ρ : Env) (i : Nat) : Env := match ρ[i]? with
  | some (.own cs) => ρ.set i (.dat (.list (cs.map Cel.pd)))
  | _ => ρ
def sFz (i : Nat) (y : XS) : XS := fun ρ => y (fzE ρ i)
theorem StOk.fz1 {pn : Pn} {F : Hs} {T : Trs} {H : Hp} {σ : L2.St} {ρ : Env} (st : StOk pn F T H σ ρ) (i : Nat) : ∃ T', StOk pn F T' H σ (fzE ρ i) ∧ Stp F T H T' H := by
  unfold fzE
  cases hi : ρ[i]? with
  | none => exact ⟨T, st, Stp.refl⟩
  | some s =>
    cases s with
    | un => exact ⟨T, st, Stp.refl⟩
    | dat d => exact ⟨T, st, Stp.refl⟩
    | dic l => exact ⟨T, st, Stp.refl⟩
    | hal k h => exact ⟨T, st, Stp.refl⟩
    | own cs =>
      have sub : Ex (hid (SF F T) H) (hid (SF F (setT T i [])) H) := hid_sub SF_setT_nil
      have mem : ∀ j x, x ∈ setT T i [] j → x ∈ T j ∧ j ≠ i := fun j x h => by
        by_cases c : j = i
        · subst c; rw [setT_same] at h; cases h
        · rw [setT_ne c] at h; exact ⟨h, c⟩
      refine ⟨setT T i [], ⟨by rw [List.length_set]; exact st.len, st.al, fun j x h => st.off j x (mem j x h).1, fun j k x h h' => st.dis j k x (mem j x h).1 (mem k x h').1, fun j => ?_, fun j hj => ?_, fun j q hq => ?_, st.pin⟩, ⟨fun _ _ => rfl, sub⟩⟩
      · by_cases c : j = i
        · subst c; rw [setT_same]; exact List.nodup_nil
        · rw [setT_ne c]; exact st.nd j
      · rw [List.length_set] at hj
        by_cases c : j = i
        · subst c; rw [setT_same]
        · rw [setT_ne c]; exact st.out j hj
      · by_cases c : i = j
        · subst c
          have hl : i < ρ.length := (List.getElem?_eq_some_iff.mp hi).1
          rw [List.getElem?_set_self hl] at hq
          cases hq
          obtain ⟨o, h1, v, rfl, ow⟩ := st.sl i _ hi
          rw [setT_same]
          refine ⟨_, h1, rfl, v, rfl, ow.rp sub fun x hx => hid_out ?_⟩
          rintro (z | ⟨j, z⟩)
          · exact st.off i x hx z
          · obtain ⟨z1, z2⟩ := mem j x z
            exact z2 (st.dis j i x z1 hx)
        · rw [List.getElem?_set_ne c] at hq
          obtain ⟨o', h1, h2⟩ := st.sl j q hq
          rw [setT_ne (fun z => c z.symm)]
          exact ⟨o', h1, h2.mv sub fun _ _ => rfl⟩
theorem ss_fz {i : Nat} {t : TS} {y : XS} (h : SS t y) : SS t (sFz i y) := fun pn F T H σ ρ o D st e q => by
  obtain ⟨T', st', s'⟩ := st.fz1 i
  exact h pn F T' H σ _ o D st' e (q.step s')
def clearE (ρ : Env) : List Nat → Env
  | [] => ρ
  | v :: vs => (clearE ρ vs).set v .un
def runP (n k : Nat) (X : XS) (ds : List PD) : Option PD := if ds.length = n then (X (ds.map Sl.dat ++ List.replicate k Sl.un)).bind fun o => match o with
  | .ret d _ => some d
  | .nxt _ => some .none
  | _ => none else none
def runW (n k : Nat) (X : XS) (cs : List Cel) (ds : List PD) : Option (PD × List Cel) := if ds.length = n then (X (.own cs :: (ds.map Sl.dat ++ List.replicate k Sl.un))).bind fun o => match o with
  | .ret d ρ => (ownAt ρ 0).bind fun cs' => some (d, cs')
  | .nxt ρ => (ownAt ρ 0).bind fun cs' => some (.none, cs')
  | _ => none else none
def runD (n k : Nat) (X : XS) (ds : List PD) : Option (List Cel) := if ds.length = n then (X (ds.map Sl.dat ++ List.replicate k Sl.un)).bind fun o => match o with
  | .retO cs _ => some cs
  | _ => none else none
def spD (f : List PD → Option (List Cel)) : Sp := fun vs H Q _ => ∃ S ds cs, Al S H ∧ RpAll (hid S H) vs ds ∧ f ds = some cs ∧ ∀ v A H2, Ex H H2 → A.Nodup → (∀ x ∈ A, ¬ S x ∧ H x = none) → Own (hid (FL S A) H2) H2 v cs A → Q v H2
theorem sw_callD {f : List PD → Option (List Cel)} {ts : TA} {as : XWA} (hs : SWA ts as) : SWO (tCall (spD f) [] E0 ts) (fun ρ => (as ρ).bind fun x => (f x.1).bind fun cs => some (cs, x.2)) := fun pn F T H σ ρ cs ρ' st e Q q => by
  obtain ⟨⟨xs, ρ1⟩, h1, e⟩ := bind_some e
  obtain ⟨z, h3, e⟩ := bind_some e
  cases e
  refine hs pn F T H σ ρ xs _ st h1 _ fun vs T1 H1 st1 s1 rv => ⟨SF F T1, xs, cs, st1.als, by rw [List.append_nil]; exact rv, h3, fun v A H2 e2 nd off ow => ?_⟩
  have eq : SF (FL F A) T1 = FL (SF F T1) A := funext fun x => propext ⟨fun h => h.elim (fun h => h.elim (fun z => .inl (.inl z)) .inr) fun z => .inl (.inr z), fun h => h.elim (fun h => h.elim (fun z => .inl (.inl z)) .inr) fun z => .inl (.inr z)⟩
  have vis : Ex (hid (SF F T1) H1) (hid (SF (FL F A) T1) H2) := fun x o h => by
    obtain ⟨c, h⟩ := hid_some h
    rw [hid_out]
    · exact e2 x o h
    · rw [eq]
      rintro (z | z)
      · exact c z
      · rw [(off x z).2] at h; cases h
  have st2 := st1.ex e2
  refine q v A T1 H2 ⟨st2.len, fun x hx => hx.elim (st2.al x) (fun z => let ⟨ob, g, _⟩ := ow.lst x z; fun w => by rw [g] at w; cases w), fun i x hx z => z.elim (st1.off i x hx) fun z => (off x z).1 (.inr ⟨i, hx⟩), st2.dis, st2.nd, st2.out, fun i s hi => ?_, st2.pin⟩ nd (fun x hx z => (off x hx).1 (.inl z)) (fun x hx => ((Stp.ex (T := T1) st1.al e2).fr x hx).trans (s1.fr x hx)) (s1.vis.trans vis) (by rw [eq]; exact ow)
  obtain ⟨o, k1, k2⟩ := st1.sl i s hi
  refine ⟨o, k1, k2.mv vis fun x hx => ?_⟩
  obtain ⟨ws, g, _⟩ := st1.lst hx
  rw [g, e2 x _ g]
theorem st0 {S : Hs} {H : Hp} {N : List Str} {vs : List V} {ds : List PD} {n k : Nat} (al : Al S H) (ra : RpAll (hid S H) vs ds) (hn : ds.length = n) (hN : N.length = n + k) : StOk pn0 S (fun _ => []) H (L2.start N vs) (ds.map Sl.dat ++ List.replicate k Sl.un) := by
  have e : N.length - vs.length = k := by rw [ra.length, hN, hn]; omega
  have eS : ∀ x, S x ↔ SF S (fun _ => []) x := fun x => ⟨.inl, fun h => h.elim id fun ⟨_, z⟩ => nomatch z⟩
  refine ⟨by unfold L2.start; rw [List.length_append, List.length_map, List.length_append, List.length_map, List.length_replicate, List.length_replicate, e, ra.length], al, fun i x h => (nomatch h), fun i j x h => (nomatch h), fun i => List.nodup_nil, fun i _ => rfl, fun i s hi => ?_, fun v z => nomatch z⟩
  unfold L2.start
  rw [e]
  by_cases c : i < ds.length
  · rw [List.getElem?_append_left (by rw [List.length_map]; exact c), List.getElem?_map, List.getElem?_eq_getElem c] at hi
    cases hi
    obtain ⟨v, h1, h2⟩ := ra.get (List.getElem?_eq_getElem c)
    refine ⟨some v, ?_, rfl, v, rfl, ?_⟩
    · rw [List.getElem?_append_left (by rw [List.length_map, ra.length]; exact c), List.getElem?_map, h1]
      rfl
    · rw [← hid_eq eS]; exact h2
  · rw [List.getElem?_append_right (by rw [List.length_map]; omega), List.getElem?_replicate] at hi
    rw [List.getElem?_append_right (by rw [List.length_map, ra.length]; omega), List.getElem?_replicate]
    rw [List.length_map] at hi ⊢
    rw [ra.length]
    split at hi
    · rename_i c2
      cases hi
      exact ⟨none, by rw [if_pos c2], rfl⟩
    · cases hi
theorem go_P {t : TS} {X : XS} {N : List Str} {vs : List V} {H : Hp} {Q : VK} {E : XK} {n k : Nat} (hX : SS t X) (hN : N.length = n + k) (hs : spF (runP n k X) vs H Q E) : t { nx := fun _ H' => Q .non H', rt := Q } (L2.start N vs) H := by
  obtain ⟨S, ds, d, al, ra, h, q⟩ := hs
  unfold runP at h
  by_cases hn : ds.length = n
  · rw [if_pos hn] at h
    obtain ⟨o, h1, h⟩ := bind_some h
    have eS : ∀ {T' : Trs} x, S x → SF S T' x := fun x => .inl
    have ex : ∀ {T' : Trs} {H' : Hp}, Stp S (fun _ => []) H T' H' → Ex H H' := fun {T' H'} s x o hx => by
      by_cases c : S x
      · rw [s.fr x c]; exact hx
      · exact hid_le _ _ (s.vis x o (by rw [hid_out (fun z => z.elim c fun ⟨_, z⟩ => nomatch z)]; exact hx))
    refine hX pn0 S _ H _ _ o _ (st0 al ra hn hN) h1 ?_
    cases o with
    | ret d' ρ' => cases h; exact fun v σ T' H' st' s' rv => q v H' (ex s') (rv.ex (hid_sub fun x hx => .inl hx))
    | nxt ρ' => cases h; exact fun σ T' H' st' s' => q .non H' (ex s') .non
    | retO _ _ => cases h
    | brk _ => cases h
    | cnt _ => cases h
  · rw [if_neg hn] at h; cases h
theorem go_D {t : TS} {X : XS} {N : List Str} {vs : List V} {H : Hp} {Q : VK} {E : XK} {n k : Nat} (hX : SS t X) (hN : N.length = n + k) (hs : spD (runD n k X) vs H Q E) : t { nx := fun _ H' => Q .non H', rt := Q } (L2.start N vs) H := by
  obtain ⟨S, ds, d, al, ra, h, q⟩ := hs
  unfold runD at h
  by_cases hn : ds.length = n
  · rw [if_pos hn] at h
    obtain ⟨o, h1, h⟩ := bind_some h
    refine hX pn0 S _ H _ _ o _ (st0 al ra hn hN) h1 ?_
    cases o with
    | retO d' ρ' =>
      cases h
      intro v A σ T' H' st' nd off fr vis ow
      have ex : Ex H H' := fun x o hx => by
        by_cases c : S x
        · rw [fr x c]; exact hx
        · exact hid_le _ _ (vis x o (by rw [hid_out (fun z => z.elim c fun ⟨_, z⟩ => nomatch z)]; exact hx))
      refine q v A H' ex nd (fun x hx => ⟨off x hx, ?_⟩) (ow.mv (hid_sub fun x hx => .inl hx) fun _ _ => rfl)
      cases qq : H x with
      | none => rfl
      | some o =>
        obtain ⟨c, _⟩ := hid_some (vis x o (by rw [hid_out (fun z => z.elim (off x hx) fun ⟨_, z⟩ => nomatch z)]; exact qq))
        exact absurd (.inl (.inr hx)) c
    | ret _ _ => cases h
    | nxt _ => cases h
    | brk _ => cases h
    | cnt _ => cases h
  · rw [if_neg hn] at h; cases h
theorem go_W {t : TS} {X : XS} {N : List Str} {vs : List V} {H : Hp} {Q : VK} {E : XK} {n k : Nat} (hX : SS t X) (hN : N.length = n + 1 + k) (hs : spW (runW n k X) vs H Q E) : t { nx := fun _ H' => Q .non H', rt := Q } (L2.start N vs) H := by
  obtain ⟨F, a, B, cs, ws, ds, d, cs', rfl, al, off, nd, ow, ra, h, q⟩ := hs
  unfold runW at h
  by_cases hn : ds.length = n
  · rw [if_pos hn] at h
    obtain ⟨o, h1, h⟩ := bind_some h
    obtain ⟨T, hT⟩ : ∃ T : Trs, T = fun i => if i = 0 then a :: B else [] := ⟨_, rfl⟩
    have T0 : T 0 = a :: B := by rw [hT]; rfl
    have TS : ∀ i, i ≠ 0 → T i = [] := fun i hi => by rw [hT]; exact if_neg hi
    have eqv : ∀ x, FL F (a :: B) x ↔ SF F T x := fun x => by
      constructor
      · rintro (z | z)
        · exact .inl z
        · exact .inr ⟨0, by rw [T0]; exact z⟩
      · rintro (z | ⟨i, z⟩)
        · exact .inl z
        · by_cases c : i = 0
          · subst c; rw [T0] at z; exact .inr z
          · rw [TS i c] at z; cases z
    have eh : hid (FL F (a :: B)) H = hid (SF F T) H := hid_eq eqv
    have e : N.length - (V.ref a :: ws).length = k := by rw [List.length_cons, ra.length, hN, hn]; omega
    have st : StOk (pn1 (.ref a)) F T H (L2.start N (.ref a :: ws)) (.own cs :: (ds.map Sl.dat ++ List.replicate k Sl.un)) := by
      have mem : ∀ i x, x ∈ T i → i = 0 ∧ x ∈ a :: B := fun i x hx => by
        by_cases c : i = 0
        · subst c; rw [T0] at hx; exact ⟨rfl, hx⟩
        · rw [TS i c] at hx; cases hx
      refine ⟨?_, al, fun i x hx => off x (mem i x hx).2, fun i j x hx hy => (mem i x hx).1.trans (mem j x hy).1.symm, fun i => ?_, fun i hi => TS i (by rw [List.length_cons] at hi; omega), fun i s hi => ?_, fun v hv => ?_⟩
      · unfold L2.start
        rw [e]
        simp only [List.map_cons, List.cons_append, List.length_cons, List.length_append, List.length_map, List.length_replicate]
        rw [ra.length]
      · by_cases c : i = 0
        · subst c; rw [T0]; exact nd
        · rw [TS i c]; exact List.nodup_nil
      · unfold L2.start
        rw [e]
        cases i with
        | zero =>
          cases hi
          rw [T0]
          exact ⟨_, rfl, _, rfl, by rw [← eh]; exact ow⟩
        | succ i =>
          rw [TS _ (Nat.succ_ne_zero i)]
          have hi : (ds.map Sl.dat ++ List.replicate k Sl.un)[i]? = some s := hi
          show ∃ o, (ws.map some ++ List.replicate k none)[i]? = some o ∧ _
          by_cases c : i < ds.length
          · rw [List.getElem?_append_left (by rw [List.length_map]; exact c), List.getElem?_map, List.getElem?_eq_getElem c] at hi
            cases hi
            obtain ⟨v, k1, k2⟩ := ra.get (List.getElem?_eq_getElem c)
            refine ⟨some v, ?_, rfl, v, rfl, by rw [← eh]; exact k2⟩
            rw [List.getElem?_append_left (by rw [List.length_map, ra.length]; exact c), List.getElem?_map, k1]
            rfl
          · rw [List.getElem?_append_right (by rw [List.length_map]; omega), List.getElem?_replicate] at hi
            rw [List.getElem?_append_right (by rw [List.length_map, ra.length]; omega), List.getElem?_replicate]
            rw [List.length_map] at hi ⊢
            rw [ra.length]
            split at hi
            · rename_i c2
              cases hi
              exact ⟨none, by rw [if_pos c2], rfl⟩
            · cases hi
      · cases hv
        unfold L2.start
        rfl
    have fin : ∀ (v : V) (d1 : PD) (cs1 : List Cel) (σ : L2.St) (ρ1 : Env) (T' : Trs) (H' : Hp), StOk (pn1 (.ref a)) F T' H' σ ρ1 → Stp F T H T' H' → Rp (hid (SF F T') H') v d1 → ownAt ρ1 0 = some cs1 → (d1, cs1) = (d, cs') → Q v H' := by
      intro v d1 cs1 σ ρ1 T' H' st' s' rv ho e2
      cases e2
      obtain ⟨a', us, B', h1, h2, h3, h4⟩ := st'.at_own (ownAt_eq ho)
      have hp := st'.pin _ rfl
      have ea : a' = a := by rw [h1] at hp; cases hp; rfl
      subst ea
      have sub : Ex (hid (SF F T') H') (hid (FL F (a' :: B')) H') := hid_sub fun x hx => hx.elim .inl fun z => .inr ⟨0, by rw [h4]; exact z⟩
      refine q v B' H' s'.fr (by rw [eh]; exact s'.vis.trans sub) (fun x hx => st'.off 0 x (by rw [h4]; exact hx)) (by rw [← h4]; exact st'.nd 0) ⟨a', us, B', rfl, h2, h3.mv sub fun _ _ => rfl, rfl⟩ (rv.ex sub)
    refine hX (pn1 (.ref a)) F T H _ _ o _ st h1 ?_
    cases o with
    | ret d' ρ' =>
      obtain ⟨c1, k1, k2⟩ := bind_some h
      exact fun v σ T' H' st' s' rv => fin v d' c1 σ ρ' T' H' st' s' rv k1 (Option.some.inj k2)
    | nxt ρ' =>
      obtain ⟨c1, k1, k2⟩ := bind_some h
      exact fun σ T' H' st' s' => fin .non .none c1 σ ρ' T' H' st' s' .non k1 (Option.some.inj k2)
    | retO _ _ => cases h
    | brk _ => cases h
    | cnt _ => cases h
  · rw [if_neg hn] at h; cases h
theorem len_F {n k : Nat} {X : XS} {vs : List V} {H : Hp} {Q : VK} {E : XK} (h : spF (runP n k X) vs H Q E) : vs.length = n := by
  obtain ⟨S, ds, d, _, ra, h, _⟩ := h
  unfold runP at h
  by_cases hn : ds.length = n
  · rw [ra.length]; exact hn
  · rw [if_neg hn] at h; cases h
theorem len_D {n k : Nat} {X : XS} {vs : List V} {H : Hp} {Q : VK} {E : XK} (h : spD (runD n k X) vs H Q E) : vs.length = n := by
  obtain ⟨S, ds, d, _, ra, h, _⟩ := h
  unfold runD at h
  by_cases hn : ds.length = n
  · rw [ra.length]; exact hn
  · rw [if_neg hn] at h; cases h
theorem len_W {n k : Nat} {X : XS} {vs : List V} {H : Hp} {Q : VK} {E : XK} (h : spW (runW n k X) vs H Q E) : vs.length = n + 1 := by
  obtain ⟨F, a, B, cs, ws, ds, d, cs', rfl, _, _, _, _, ra, h, _⟩ := h
  unfold runW at h
  by_cases hn : ds.length = n
  · rw [List.length_cons, ra.length, hn]
  · rw [if_neg hn] at h; cases h
end Uv

namespace Uv
open PySem PySem.Spec PyProof.Rows L2
open Evl (Ex)
section
variable {P : Program} {w : World} {K : PySem.W.Frag} {mg : Str → Option Value} {base : Heap}
structure FnG (P : Program) (w : World) (K : PySem.W.Frag) (mg : Str → Option Value) (base : Heap) (k : Nat) (f : Addr) (fd : FuncData) (ps : List Str) (sp : Sp) : Prop where
  len : ∀ vs H Q E, sp vs H Q E → vs.length = ps.length
  run : ∀ (A : Around) (outer : List PySem.Env) (s : Shared) (H : Hp) (args : Args) (us : List Value) (vs : List V) (Q : VK) (E : XK), A.guards = some [] → Room k A → Env0 P w K mg base A outer s H → BindsTo s fd args (ps.zip us) → Vals vs us → sp vs H Q E →
    codeAny (model P w) A (.call (.ref f) args) (CR CX0 outer P w H s Q E) s
structure CalG (P : Program) (w : World) (K : PySem.W.Frag) (mg : Str → Option Value) (base : Heap) (k : Nat) (x : Str) (sp : Sp) : Prop where
  ex : ∃ (f : Addr) (fd : FuncData) (ps : List Str), FnG P w K mg base k f fd ps sp ∧ mg x = some (.ref f) ∧ PySem.W.keepIn K (.ref f) = true ∧ Binds K fd ps []
structure Dfn (K : PySem.W.Frag) (mg : Str → Option Value) (x : Str) (st : Stmt) (ps : List Str) : Prop where
  ex : ∃ f fd, Fun K x x st f fd ∧ mg x = some (.ref f) ∧ Binds K fd ps []
theorem dfn_mk {h : Heap} {x : Str} {st : Stmt} {ps : List Str} {f : Addr} {od an : Option Addr} {sl : Array (Option Value)} {oc kV dc pm cd ct : Value} (X : K.In h) (G : h.Ns mainGlobals mg)
    (a1 : PySem.W.nsIn K mainGlobals x = some (some (.ref f))) (l1 : K.lookup f = some ⟨oc, od, .func (PySem.W.fnOf x x (defArgs st) (defBody st) (defScope st) .none kV dc pm an cd ct), sl⟩) (c1 : PySem.W.codeIn K cd x = true) (k1 : PySem.W.keepIn K (.ref f) = true)
    (hb : ∀ (kV doc pm : Value) (an : Option Addr) (cdv ct : Value) (us : List Value), us.length = ps.length → bindArgs (PySem.W.fnOf x x (defArgs st) (defBody st) (defScope st) .none kV doc pm an cdv ct) ⟨us, []⟩ = pure (ps.zip us)) : Dfn K mg x st ps := by
  have F := fun_mk (st := st) l1 c1 k1
  exact ⟨f, _, F, PySem.W.mg_of X G a1, F.binds hb⟩
theorem pe_g {X : Cx} {j k : Nat} {x : Str} {sp : Sp} {p pos : Pos} {e : Expr} {es : List Expr} {t : TA} (c : CalG X.prog X.w X.K X.mg X.base k x sp) (hr : Room j X.A) (hk : k ≤ j) (hG : X.A.guards = some []) (hg : Gl X x) (ha : PA X (e :: es) t)
    (hdb : (x == ("__debug__" : Str)) = false := by decide) (he : starEach (e :: es) X.env = (false, eval e X.env) :: starEach es X.env := by rfl) (hpl : (backTo pos (starEach es X.env)).any (·.1) = false := by rfl) :
    PE X (.Call (.Name x p) (e :: es) [] pos) (tCall sp [] E0 t) := by
  obtain ⟨f, fd, ps, F, hm, kp, b⟩ := c.ex
  refine ⟨fun pins s σ H Q I h => wpAny_Call_Name_kw (ld_glob I hg hm ?_ hdb)⟩
  refine PySem.W.callWith_K (h₀ := X.base) I.ok.mod.kin kp (thn (ha.run pos pins s σ H _ I h) fun us s1 hh => ?_) he hpl
  obtain ⟨vs, H1, I1, r, q⟩ := hh
  rw [List.append_nil] at q
  have hl : us.length = ps.length := by rw [← r.length]; exact F.len _ _ _ _ q
  have bd := b s1 us I1.kIn (by rw [List.append_nil]; exact hl)
  rw [List.append_nil] at bd
  refine ⟨I1.kIn, wpAny_call (codeAny_mono (F.run X.A X.stack s1 H1 ⟨us, []⟩ us vs Q E0 hG (hr.mono hk) I1.env0 bd r q) fun rr s' hq => ?_)⟩
  match rr, hq with
  | .error _, hq => exact hq.elim
  | .ok (.ret u), hq => exact I1.after hq
  | .ok .next, hq => exact hq.elim
  | .ok .brk, hq => exact hq.elim
  | .ok .cont, hq => exact hq.elim
theorem fn_g {x : Str} {st : Stmt} {f : Addr} {fd : FuncData} {N ps : List Str} {k : Nat} {sp : Sp} (F : Fun K x x st f fd) (S : FnScope N ps (defScope st)) (len : ∀ vs H Q E, sp vs H Q E → vs.length = ps.length)
    (hb : ∀ (cdv : Value) (A : Around) (outer : List PySem.Env) (s : Shared) (H : Hp) (E : XK), (A.deeper (envOfC x (defScope st) s.heap.objs.size f cdv)).guards = some [] → Room k (A.deeper (envOfC x (defScope st) s.heap.objs.size f cdv)) →
      ∃ t, PSs (cxOf CX0 P w K mg base N x (defScope st) f cdv A outer s H E).nox (defBody st) t ∧ ∀ vs Q, sp vs H Q E → t { nx := fun _ H' => Q .non H', rt := Q } (L2.start N vs) H) : FnG P w K mg base (k + 1) f fd ps sp := by
  obtain ⟨oc, od, kV, doc, pm, an, cdv, ct, osl, rfl, lk, hcd⟩ := F.ex
  refine ⟨len, fun A outer s H args us vs Q E hG hr e0 hbd r hsp => ?_⟩
  obtain ⟨t, ht, hq⟩ := hb cdv A outer s H E hG (hr.deeper _)
  have keep : ∀ b o, base.get? b = some o → s.heap.get? b = some o := fun b o e => (e0.bs b o e).1
  have KX : K.In s.heap := e0.mod.kin.keeps keep
  have lim : s.heap.NoLimit := e0.mod.nolimit.keeps keep
  refine codeAny_call_function hr.depth (KX _ _ lk) rfl S.co S.gen rfl (PySem.W.codeRec_of KX hcd) (hbd _ _ _ _ ?_)
  refine wpAny_newFunctionEnv_cells S.kind (fun y hy => ?_) fun env he s1 ic => ?_
  · rcases S.par y.1 (List.of_mem_zip hy).1 with q | q
    · exact .inl q
    · exact .inr ⟨q, PySem.W.cellsFrom_some _ _ _ (.inl q)⟩
  · subst he
    have I : Inv (cxOf CX0 P w K mg base N x (defScope st) f cdv A outer s H E) [] (L2.start N vs) H s1 := inv_start S hr.hd e0 (len _ _ _ _ hsp) r ic
    refine ⟨lim.keeps ic.toInCall.keep, codeAny_func (wpAny_mono (ht.nox.run [] s1 (L2.start N vs) H _ I (hq vs Q hsp)) (fun fl s' hs => ?_) fun e s' hs => hs)⟩
    match fl, hs with
    | .ret u, ⟨v, σ', H', J, rv, q⟩ => exact ⟨v, H', J.os, J.bare, J.base, J.hok, rv, q⟩
    | .next, ⟨σ', H', J, q⟩ => exact ⟨.non, H', J.os, J.bare, J.base, J.hok, rfl, q⟩
    | .brk, ⟨_, _, _, q⟩ => exact q.elim
    | .cont, ⟨_, _, _, q⟩ => exact q.elim
theorem cal_g {x : Str} {st : Stmt} {N ps : List Str} {k : Nat} {sp : Sp} (F : Dfn K mg x st ps) (S : FnScope N ps (defScope st)) (len : ∀ vs H Q E, sp vs H Q E → vs.length = ps.length)
    (hb : ∀ (f : Addr) (cdv : Value) (A : Around) (outer : List PySem.Env) (s : Shared) (H : Hp) (E : XK), (A.deeper (envOfC x (defScope st) s.heap.objs.size f cdv)).guards = some [] → Room k (A.deeper (envOfC x (defScope st) s.heap.objs.size f cdv)) →
      ∃ t, PSs (cxOf CX0 P w K mg base N x (defScope st) f cdv A outer s H E).nox (defBody st) t ∧ ∀ vs Q, sp vs H Q E → t { nx := fun _ H' => Q .non H', rt := Q } (L2.start N vs) H) : CalG P w K mg base (k + 1) x sp := by
  obtain ⟨f, fd, F, hm, b⟩ := F.ex
  exact ⟨f, fd, ps, fn_g F S len (hb f), hm, F.kp, b⟩
end
def scriptH (K : PySem.W.Frag) (a : Addr) (vs : List Value) (ns : List Int) : Hp := fun b => if b = a ∧ K.lookup a = none then some (.frz { cls := .type "list", data := .seq vs.toArray } (.lst (ns.map V.int))) else none
theorem scriptH_some {K : PySem.W.Frag} {a b : Addr} {vs : List Value} {ns : List Int} {o : HO} (h : scriptH K a vs ns b = some o) : b = a ∧ K.lookup a = none ∧ o = .frz { cls := .type "list", data := .seq vs.toArray } (.lst (ns.map V.int)) := by
  unfold scriptH at h
  by_cases c : b = a ∧ K.lookup a = none
  · rw [if_pos c] at h
    exact ⟨c.1, c.2, (Option.some.inj h).symm⟩
  · rw [if_neg c] at h
    cases h
theorem none_by {K : PySem.W.Frag} {a b : Addr} {vs : List Value} {ns : List Int} (h : b = a → K.lookup a = none → False) : scriptH K a vs ns b = none := by
  cases q : scriptH K a vs ns b with
  | none => rfl
  | some o =>
    obtain ⟨e1, e2, _⟩ := scriptH_some q
    exact (h e1 e2).elim
theorem top_call {P : Program} {w : World} {K : PySem.W.Frag} {mg mb : Str → Option Value} {k : Nat} {fa a : Addr} {fd : FuncData} {x : Str} {sp : Sp} {s₁ : Shared} {vs : List Value} {ns : List Int}
    (KX : K.In s₁.heap) (hns : s₁.heap.Ns mainGlobals mg) (hb : s₁.heap.Ns builtinsNs mb) (hbb : ∀ x : Str, x ≠ "__name__" → mb x = bootBuiltins x) (hlim : s₁.heap.NoLimit) (hg : s₁.gens = #[])
    (ha : s₁.heap.get? a = some { cls := .type "list", data := .seq vs.toArray }) (hi : IntsAre vs ns) (hl : ns.length ≤ sizeLine) (hr : Room k callerA)
    (F : ∀ base : Heap, K.In base → base.Ns mainGlobals mg → FnG P w K mg base k fa fd [x] sp) (hbind : ∀ (s : Shared) (u : Value), BindsTo s fd ⟨[u], []⟩ [(x, u)])
    (hsp : ∀ H : Hp, SqL K H a (ns.map V.int) → sp [.ref a] H (fun v _ => v = .bl true) fun _ _ _ => False) :
    codeAny (model P w) callerA (.call (.ref fa) ⟨[.ref a], []⟩) (fun r s' => r = .ok (.ret (.bool true)) ∧ OldK s₁.heap s'.heap ∧ s'.os = s₁.os ∧ AllBare s'.gens) s₁ := by
  have rv := vals_ints hi
  have hs : SqL K (scriptH K a vs ns) a (ns.map V.int) := by
    cases hk : K.lookup a with
    | none => exact .inl (.inr ⟨_, if_pos ⟨rfl, hk⟩⟩)
    | some o =>
      have e := KX a o hk
      rw [ha] at e
      cases e
      exact .inr ⟨_, vs.toArray, _, hk, rfl, rfl, rfl, by rw [List.size_toArray, hi.length]; exact hl, by simpa using rv⟩
  have hok : HOk P w (scriptH K a vs ns) s₁.heap := fun b o h => by
    obtain ⟨rfl, _, rfl⟩ := scriptH_some h
    exact ⟨ha, by rw [List.length_map]; exact hl, vs, _, rv, ha⟩
  have old : ∀ {b : Addr} {o : Obj}, s₁.heap.get? b = some o → scriptH K a vs ns b = none → (hidT s₁.heap (scriptH K a vs ns)).get? b = some o := fun e n => hidT_get e n
  have nsK : ∀ {b : Addr} {m : Str → Option Value}, s₁.heap.Ns b m → (hidT s₁.heap (scriptH K a vs ns)).Ns b m := fun {b m} ⟨o, es, ep, e, d, r⟩ => ⟨o, es, ep, old e (none_by fun z _ => by
    subst z
    rw [ha] at e
    cases e
    exact nomatch (show Data.seq vs.toArray _ = Data.dict es ep from d)), d, r⟩
  have kin : K.In (hidT s₁.heap (scriptH K a vs ns)) := fun b o e => old (KX b o e) (none_by fun z q => by
    subst z
    rw [q] at e
    cases e)
  have mod : Mod K mg (hidT s₁.heap (scriptH K a vs ns)) := ⟨kin, nsK hns, ⟨mb, nsK hb, hbb⟩, let ⟨mc, h1, h2⟩ := hlim; ⟨mc, nsK h1, h2⟩⟩
  have e0 : Env0 P w K mg (hidT s₁.heap (scriptH K a vs ns)) callerA [] s₁ (scriptH K a vs ns) := ⟨rfl, mod, fun b o e => of_hidT e, Nat.le_of_eq (hidT_size _ _), trivial, fun b hb => absurd (show b ∈ ([] : List Addr) from hb) (by simp), hok, .of_eq hg⟩
  refine codeAny_mono ((F _ kin (nsK hns)).run callerA [] s₁ _ ⟨[.ref a], []⟩ [.ref a] [.ref a] _ _ rfl hr e0 (hbind s₁ (.ref a)) (.cons rfl .nil) (hsp _ hs)) fun r s' h => ?_
  match r, h with
  | .error e, h => exact h.elim
  | .ok .next, h => exact h.elim
  | .ok .brk, h => exact h.elim
  | .ok .cont, h => exact h.elim
  | .ok (.ret u), ⟨v, H', os, bare, un, hok', r', q⟩ =>
    have q' : v = .bl true := q
    subst q'
    obtain rfl : u = Value.bool true := r'
    refine ⟨rfl, OldK.of_keep fun b o e => ?_, os, bare⟩
    cases q : scriptH K a vs ns b with
    | none => exact un.keep b o e q (fun z => absurd (show b ∈ ([] : List Addr) from z) (by simp)) (by simp)
    | some u =>
      obtain ⟨rfl, _, rfl⟩ := scriptH_some q
      obtain ⟨e1, _⟩ := hok b _ q
      obtain ⟨e2, _⟩ := hok' b _ (un.frzs b _ _ q)
      rw [e] at e1
      cases e1
      exact e2
end Uv

namespace Uv
open PySem PySem.Spec PyProof.Rows L2
open Evl (Ex)
variable [kk : KK]
def wCallD (f : List PD → Option (List Cel)) (as : XWA) : XWO := fun ρ => (as ρ).bind fun x => (f x.1).bind fun cs => some (cs, x.2)
end Uv

namespace Uv
open PySem PySem.Spec PyProof.Rows L2 Srt SrtO
open Evl (Ex)
section
variable {prog : Program} {w : World} {A : Around} {E : Value → Shared → Prop} {s : Shared}
end
variable [kk : KK]
end Uv

namespace Uv
open PySem PySem.Spec PyProof.Rows L2
open Evl (Ex)
variable [kk : KK]
abbrev NewL (S : Hs) (H : Hp) (ds : List PD) (Q : VK) : Prop := ∀ p vs H2, Ex H H2 → H p = none → H2 p = some (.lst vs) → RpAll (hid (fun x => x = p ∨ S x) H2) vs ds → Q (.ref p) H2
def RoF (r : R2) (x y : PD) (ds : List PD) : Prop := ∀ S H vx vy, Al S H → Rp (hid S H) vx x → Rp (hid S H) vy y → ∀ Q : VK, NewL S H ds Q → r vx vy H Q
def SOF (r : R2) (f : PD → PD → Option PD) : Prop := ∀ x y z, f x y = some z → ∃ ds, z = .list ds ∧ RoF r x y ds
theorem ex_free {H H1 : Hp} {p : Addr} (e : Ex H H1) (hp : H1 p = none) : H p = none := by
  cases q : H p with
  | none => rfl
  | some o => rw [e _ _ q] at hp; cases hp
section
variable {r : R2} {f : PD → PD → Option PD} {ta tb : TE} {a b : XE}
theorem sef_op (hr : SOF r f) (ha : SE ta a) (hb : SE tb b) : SEF (tOp r ta tb) (xOp f a b) := fun ρ d h => by
  obtain ⟨x, h1, h⟩ := bind_some h
  obtain ⟨y, h2, h⟩ := bind_some h
  obtain ⟨ds, rfl, g⟩ := hr x y d h
  refine ⟨ds, rfl, fun S σ H al en Q q => ha ρ x h1 S σ H al en _ fun v H1 e1 rv => hb ρ y h2 S σ H1 (al.ex e1) (en.ex (hid_ex e1)) _ fun u H2 e2 ru => ?_⟩
  exact g S H2 v u ((al.ex e1).ex e2) (rv.ex (hid_ex e2)) ru Q fun p vs H3 e3 hp h3 ra => q p vs H3 ((e1.trans e2).trans e3) (ex_free (e1.trans e2) hp) h3 ra
end
def catP : PD → PD → Option PD
  | .list xs, .list ys => if xs.length + ys.length ≤ 100000 then some (.list (xs ++ ys)) else none
  | _, _ => none
theorem sof_cat : SOF (rAddU K) catP := fun x y z h => by
  cases x with
  | list xs =>
    cases y with
    | list ys =>
      have h : (if xs.length + ys.length ≤ 100000 then some (PyData.list (xs ++ ys)) else none) = some z := h
      by_cases c : xs.length + ys.length ≤ 100000
      · rw [if_pos c] at h
        cases h
        refine ⟨_, rfl, fun S H vx vy al rx ry Q q => ?_⟩
        cases rx with
        | lst ha ra =>
          cases ry with
          | lst hb rb => exact .inr (.inl ⟨_, _, _, _, rfl, rfl, hid_le _ _ ha, hid_le _ _ hb, by rw [ra.length, rb.length]; exact Evl.sz_of c, fun p hp => q p _ _ (Ex.new hp) hp upd_same ((ra.append rb).ex (hid_cons (Ex.new hp) hp))⟩)
      · rw [if_neg c] at h; cases h
    | _ => cases h
  | _ => cases h
section
variable {P : Program} {w : World} {mg : Str → Option Value} {base : Heap}
end
end Uv

namespace Un
open PySem PySem.Spec PyProof.Rows L2
theorem tuple_mul1 (l : Addr) (its : Array Value) (n : Nat) (dd : Option Addr) (sl : Array (Option Value)) (u : Tok) :
    Meets (Builtin.«tuple.__mul__» ⟨[.ref l, .int 1 u], []⟩) (fun _ R st => st.heap.get? l = some { cls := .type "tuple", dict := dd, data := .seq its n, slots := sl } ∧ R (.ok (.ret (Value.ref l))) st) :=
  .of_wp fun prog w A R st hh => by
    obtain ⟨hp, gn, dr, tk, os⟩ := st
    obtain ⟨hl, hh⟩ := hh
    have f1 := AutoSeq1.idx_int
    have c0 : (decide ((1 : Int) < -(2 ^ 63)) || decide ((1 : Int) ≥ 2 ^ 63)) = false := by decide
    have c1 : (its.isEmpty || (1 : Int) == 1) = true := by simp
    wp_walk using AutoSeq1.wpAny_loadPart' hl
    exact ⟨_, rfl, hh⟩
end Un

namespace Uv
open PySem PySem.Spec PyProof.Rows L2
open Evl (Ex)
section
variable {prog : Program} {w : World} {A : Around} {E : Value → Shared → Prop} {s : Shared}
end
end Uv

namespace Uv
open PySem PySem.Spec PyProof.Rows L2
open Evl (Ex)
theorem tuple_mul0 (l : Addr) (its : Array Value) (n : Nat) (dd : Option Addr) (sl : Array (Option Value)) (u : Tok) (hne : its.isEmpty = false) :
    Meets (Builtin.«tuple.__mul__» ⟨[.ref l, .int 0 u], []⟩) (fun _ R st => st.heap.get? l = some { cls := .type "tuple", dict := dd, data := .seq its n, slots := sl } ∧ R (.ok (.ret (Value.ref st.heap.objs.size))) { st with heap := st.heap.push { cls := Value.type "tuple", data := Data.seq #[] }, toks := st.toks }) :=
  .of_wp fun prog w A R st hh => by
    obtain ⟨hp, gn, dr, tk, os⟩ := st
    obtain ⟨hl, hh⟩ := hh
    have f1 := AutoSeq1.idx_int
    have c0 : (decide ((0 : Int) < -(2 ^ 63)) || decide ((0 : Int) ≥ 2 ^ 63)) = false := by decide
    have c1 : (its.isEmpty || (0 : Int) == 1) = false := by rw [hne]; rfl
    wp_walk using AutoSeq1.wpAny_loadPart' hl
    repeat (first
      | (refine wpAny_ite_false (decide_eq_false (by rw [c0]; exact Bool.false_ne_true)) ?_; wp_walk using AutoSeq1.wpAny_loadPart' hl)
      | (refine wpAny_ite_false (decide_eq_false (by rw [c1]; exact Bool.false_ne_true)) ?_; wp_walk using AutoSeq1.wpAny_loadPart' hl))
    exact ⟨_, rfl, hh⟩
def rRepF (K : PySem.W.Frag) : R2 := fun x y H Q => ∃ l k xs, x = .ref l ∧ y = .int k ∧ SqT K H l xs ∧ xs ≠ [] ∧ 0 ≤ k ∧ k ≤ 1000 ∧ xs.length ≤ 1000 ∧ (k = 1 → Q (.ref l) H) ∧ (k ≠ 1 → ∀ p o, H p = none → Plain o → Q (.ref p) (upd H p (fz o (List.replicate k.toNat xs).flatten)))
theorem op_repF {X : Cx} : OpR X (binaryOp .Mult) (rRepF X.K) := by
  intro pins s σ H x y v u Q I rx ry h
  obtain ⟨l, k, xs, rfl, rfl, hT, hne, h1, h2, hz, q1, q2⟩ := h
  cases rx
  obtain ⟨t, rfl⟩ := ry
  obtain ⟨its, r, ⟨⟨cls, dd, data, sl⟩, ho, hc, n, hd⟩, hs⟩ := I.tuple hT
  simp only at hc hd
  subst hc hd
  have hle : its.length = xs.length := r.length.symm
  have hi : its.toArray.isEmpty = false := by
    cases its with
    | nil => exact absurd (List.eq_nil_of_length_eq_zero hle.symm) hne
    | cons a b => rfl
  refine wpAny_binaryOp_repeat_ref (T := "tuple") (U := "int") (by decide) ⟨_, ho, rfl⟩ (fun s' => typeIs_int s' k t) noFill_tuple_mul F.fills_int_mul F.slot_int_rmul repeat_tuple F.slot_int_index.lookup ?_
  refine call_meets F.slot_int_rmul (typeIs_int s k t) F.entry_int_rmul (F.args_int_rmul_2 _ _) (int_rmul_tuple k t l its.toArray n dd sl) ⟨ho, rfl, ⟨_, ho, rfl⟩, ?_⟩
  have new : ∀ (us : List Value) (vs : List V), Vals vs us → vs.length ≤ sizeLine → (∀ p o, H p = none → Plain o → Q (.ref p) (upd H p (fz o vs))) → EP X pins σ Q (.ref s.heap.objs.size) { s with heap := s.heap.push { cls := Value.type "tuple", data := Data.seq us.toArray }, toks := s.toks } := fun us vs rv hv q => by
    have ok := I.laid (t' := s.toks) (o := fz _ vs) (fun b ob e => Heap.get?_push_of_some _ e) (Nat.le_refl _) (show ObjOk X.prog X.w _ _ _ (.frz _ (.tup vs)) from ⟨Heap.get?_push_size _ rfl, hv, us, rv, IsTup.new _ _⟩)
    exact ⟨.ref s.heap.objs.size, _, ok, rfl, q _ _ (I.hok.fresh (Nat.le_refl _)) ⟨rfl, rfl⟩⟩
  by_cases hk : k = 1
  · subst hk
    exact call_meets F.slot_tuple_mul ⟨_, ho, rfl⟩ F.entry_tuple_mul (F.args_tuple_mul_2 _ _) (Un.tuple_mul1 l its.toArray n dd sl t) ⟨ho, .ref l, H, I, rfl, q1 rfl⟩
  · have q2 := q2 hk
    by_cases h0 : k = 0
    · subst h0
      exact call_meets F.slot_tuple_mul ⟨_, ho, rfl⟩ F.entry_tuple_mul (F.args_tuple_mul_2 _ _) (tuple_mul0 l its.toArray n dd sl t hi) ⟨ho, new [] [] .nil (Nat.zero_le _) q2⟩
    · have hm : ((its.toArray.size : Nat) : Int) * k ≤ 1000000 := by
        rw [List.size_toArray, hle]
        have a1 : ((xs.length : Nat) : Int) * k ≤ 1000 * k := Int.mul_le_mul_of_nonneg_right (by omega) (by omega)
        omega
      have flen : (List.replicate k.toNat its).flatten.length ≤ sizeLine := by
        rw [PyProof.Rows.lm_len_rep_flat, hle, sizeLine_eq]
        have a1 : k.toNat * xs.length ≤ 1000 * 1000 := Nat.mul_le_mul (by omega) hz
        omega
      have rep : ∀ m : Nat, Vals (List.replicate m xs).flatten (List.replicate m its).flatten := fun m => by
        induction m with
        | zero => exact .nil
        | succ m ih => rw [List.replicate_succ, List.replicate_succ, List.flatten_cons, List.flatten_cons]; exact r.append ih
      have c0 : (decide (k < -(2 ^ 63)) || decide (k ≥ 2 ^ 63)) = false := by rw [decide_eq_false (by omega), decide_eq_false (by omega)]; rfl
      have c1 : (its.toArray.isEmpty || k == 1) = false := by rw [hi, Bool.false_or]; exact beq_eq_false_iff_ne.mpr hk
      have c2 : (decide (k ≤ 0) || its.toArray.isEmpty) = false := by rw [hi, Bool.or_false]; exact decide_eq_false (by omega)
      have c4 : Builtin.Tuple.tupleTooMany (((its.toArray.size : Nat) : Int) * k) = false := by unfold Builtin.Tuple.tupleTooMany; rw [sizeLine_eq]; exact decide_eq_false (by omega)
      refine call_meets F.slot_tuple_mul ⟨_, ho, rfl⟩ F.entry_tuple_mul (F.args_tuple_mul_2 _ _) (tuple_mulW l its.toArray n dd sl k t c0 c1 c2 (by omega) c4 (by rw [size_rep, List.size_toArray]; exact flen)) ⟨ho, ?_⟩
      rw [size_rep]
      exact new _ _ (rep k.toNat) (by rw [(rep k.toNat).length]; exact flen) q2
def tPar3 (i j k : Nat) (ta : TA) : TS := fun D σ H => ta σ H fun vs H1 => ∃ v w z, vs = [v, w, z] ∧ D.nx (((σ.set i (some v)).set j (some w)).set k (some z)) H1
theorem ps_par3 {X : Cx} {i j k : Nat} {x y z : Str} {a b c : Expr} {ta : TA} {px py pz pt pos : Pos} {kt k2 pt2} (hc : X.calm = true) (hN : X.N.Nodup) (hi : X.N[i]? = some x) (hj : X.N[j]? = some y) (hk : X.N[k]? = some z) (hij : i ≠ j) (hik : i ≠ k) (hjk : j ≠ k)
    (hx : X.env.scope.names.lookup x = some .local) (hy : X.env.scope.names.lookup y = some .local) (hz : X.env.scope.names.lookup z = some .local) (ha : PA X [a, b, c] ta)
    (hw : swappedStores [.Tuple [.Name x px, .Name y py, .Name z pz] kt pt] (.Tuple [a, b, c] k2 pt2) X.env = pure (some [x, y, z]))
    (hs : swapsWithSole [.Tuple [.Name x px, .Name y py, .Name z pz] kt pt] (.Tuple [a, b, c] k2 pt2) pos.line X.env = pure false := by rfl) :
    PS X (.Assign [.Tuple [.Name x px, .Name y py, .Name z pz] kt pt] (.Tuple [a, b, c] k2 pt2) pos) (tPar3 i j k ta) := by
  refine ⟨fun pins s σ H D I h => ?_⟩
  rw [exec_Assign_arm]
  refine wpAny_bind (wpAny_standAt ?_)
  rw [hs]
  refine wpAny_bind (wpAny_pure ?_)
  rw [if_neg (by decide)]
  refine wpAny_bind (Tuple_ (thn (ha.run _ pins s σ H _ I h) fun us s1 ⟨vs, H1, I1, r1, q1⟩ => ?_))
  obtain ⟨v1, v2, v3, e1, q1⟩ := q1
  subst e1
  obtain ⟨u1, u2, u3, rfl, r1, r2, r3⟩ := vals3 r1
  refine wpAny_newObj_type ?_ (by show 3 ≤ sizeLine; decide)
  have I2 : Inv X pins σ H1 { s1 with heap := s1.heap.push { cls := .type "tuple", data := .seq [u1, u2, u3].toArray } } := I1.kept (t' := s1.toks) fun b o e => Heap.get?_push_of_some _ e
  rw [hw]
  refine wpAny_bind (wpAny_pure ?_)
  show wpAny (model X.prog X.w) X.A (do rule "assign.swapped-stores"; let items ← unpackItems (.ref s1.heap.objs.size) 3 none; assignInOrder [fun v => bindName X.env z v, fun v => bindName X.env y v, fun v => bindName X.env x v] items.reverse; pure Flow.next) _ _ _
  refine wpAny_bind (wpAny_rule (wpAny_bind (unpackItems_tuple (items := #[u1, u2, u3]) (I.ok.hd hc) (IsTup.new s1.heap _) fun h' hx' => ?_)))
  have I3 := I2.kept (h' := h') (t' := s1.toks) fun b o e => hx' b o (Nat.ne_of_lt (Heap.lt_size e)) e
  show wpAny _ _ (assignInOrder [fun v => bindName X.env z v, fun v => bindName X.env y v, fun v => bindName X.env x v] [u3, u2, u1] >>= fun _ => pure Flow.next) _ _ _
  refine wpAny_bind (assignInOrder_cons (wpAny_bindName (store_ok I3 hN hk (.inl hz) r3 (fun s2 I4 => ?_) (.inr hz))))
  refine assignInOrder_cons (wpAny_bindName (store_ok I4 hN hj (.inl hy) r2 (fun s3 I5 => ?_) (.inr hy)))
  refine assignInOrder_cons (wpAny_bindName (store_ok I5 hN hi (.inl hx) r1 (fun s4 I6 => assignInOrder_nil (wpAny_pure ?_)) (.inr hx)))
  rw [List.set_comm _ _ (Ne.symm hjk), List.set_comm _ _ (Ne.symm hik), List.set_comm _ _ (Ne.symm hij)] at I6
  exact ⟨_, H1, I6, q1⟩
section
variable [kk : KK]
def three : List Cel → Option (Cel × Cel × Cel)
  | [a, b, c] => some (a, b, c)
  | _ => none
theorem three_eq {cs : List Cel} {c d e : Cel} (h : three cs = some (c, d, e)) : cs = [c, d, e] := by
  unfold three at h
  split at h
  · cases h; rfl
  · cases h
def sPar3 (i j k : Nat) (as : XWC) : XS := fun ρ => (as ρ).bind fun x => (three x.1).bind fun c => if i < x.2.length ∧ j < x.2.length ∧ k < x.2.length then some (.nxt (((x.2.set i (toSl c.1)).set j (toSl c.2.1)).set k (toSl c.2.2))) else none
theorem cels_split {G H : Hp} {v : V} {vs : List V} {c : Cel} {cs : List Cel} {B : List Addr} (h : Cels G H (v :: vs) (c :: cs) B) : ∃ B1 B2, B = B1 ++ B2 ∧ Cels G H [v] [c] B1 ∧ Cels G H vs cs B2 := by
  cases h with
  | dat r n => exact ⟨[], B, rfl, .dat r .nil, n⟩
  | sub hb r n => exact ⟨[_], _, rfl, .sub hb r .nil, n⟩
  | hal o n => exact ⟨_, _, rfl, by simpa using Cels.hal o Cels.nil, n⟩
theorem ss_par3 {i j k : Nat} {ts : TA} {as : XWC} (hi : i ≠ 0) (hj : j ≠ 0) (hk : k ≠ 0) (hs : SWC ts as) : SS (tPar3 i j k ts) (sPar3 i j k as) := fun pn F T H σ ρ o D st e q => by
  obtain ⟨⟨cs, ρ1⟩, h1, e⟩ := bind_some e
  obtain ⟨⟨c, d, g⟩, h2, e⟩ := bind_some e
  have ec : cs = _ := three_eq h2
  subst ec
  by_cases hl : i < ρ1.length ∧ j < ρ1.length ∧ k < ρ1.length
  · rw [if_pos hl] at e
    cases e
    refine hs pn F T H σ ρ _ ρ1 st h1 _ fun vs B T1 H1 st1 nd off fr vis hc => ?_
    obtain ⟨v, w, z, rfl⟩ : ∃ v w z, vs = [v, w, z] := by
      have := hc.length
      match vs, this with
      | [v, w, z], _ => exact ⟨v, w, z, rfl⟩
    refine ⟨v, w, z, rfl, ?_⟩
    obtain ⟨B1, B', rfl, c1, c'⟩ := cels_split hc
    obtain ⟨B2, B3, rfl, c2, c3⟩ := cels_split c'
    have eF : FL F (B1 ++ (B2 ++ B3)) = FL (FL (FL F B3) B2) B1 := by rw [FL_app, FL_app]; exact FL_perm fun x => by simp only [List.mem_append]; exact ⟨fun h => by rcases h with h | h | h <;> simp [h], fun h => by rcases h with h | h | h <;> simp [h]⟩
    rw [eF] at st1 c1 c2 c3 vis
    have n1 := List.nodup_append.mp nd
    have n2 := List.nodup_append.mp n1.2.1
    obtain ⟨T2, st2, vis2⟩ := StOk.cel (F := FL (FL F B3) B2) hi hl.1 st1 n1.1 (fun x hx y => y.elim (fun y => y.elim (off x (List.mem_append_left _ hx)) fun y => n1.2.2 x hx x (List.mem_append_right _ y) rfl) fun y => n1.2.2 x hx x (List.mem_append_left _ y) rfl) c1
    have c2' := c2.mv vis2 fun x hx => (rfl : H1 x = H1 x)
    obtain ⟨T3, st3, vis3⟩ := StOk.cel (F := FL F B3) hj (by rw [List.length_set]; exact hl.2.1) st2 n2.1 (fun x hx y => y.elim (off x (List.mem_append_right _ (List.mem_append_left _ hx))) fun y => n2.2.2 x hx x y rfl) c2'
    have c3' := c3.mv (vis2.trans vis3) fun x hx => (rfl : H1 x = H1 x)
    obtain ⟨T4, st4, vis4⟩ := StOk.cel (F := F) hk (by rw [List.length_set, List.length_set]; exact hl.2.2) st3 n2.2.1 (fun x hx => off x (List.mem_append_right _ (List.mem_append_right _ hx))) c3'
    exact q _ T4 H1 st4 ⟨fr, ((vis.trans vis2).trans vis3).trans vis4⟩
  · rw [if_neg hl] at e; cases e
def mulU : PD → PD → Option PD
  | .tuple xs, .int j => if xs ≠ [] ∧ 0 ≤ j ∧ j ≤ 1000 ∧ xs.length ≤ 1000 then some (.tuple (List.replicate j.toNat xs).flatten) else none
  | x, y => mulP x y
def rMulV (K : PySem.W.Frag) : R2 := fun x y H Q => rMulU x y H Q ∨ rRepF K x y H Q
theorem op_mulV {X : Cx} : OpR X (binaryOp .Mult) (rMulV X.K) := OpR.or op_mulU op_repF
theorem so_mulV : SO (rMulV K) mulU := fun x y z h S H vx vy al rx ry Q q => by
  cases rx with
  | @tup a o xs ds ha pa ra =>
    cases ry with
    | int j =>
      have h : (if ds ≠ [] ∧ 0 ≤ j ∧ j ≤ 1000 ∧ ds.length ≤ 1000 then some (PyData.tuple (List.replicate j.toNat ds).flatten) else none) = some z := h
      by_cases c : ds ≠ [] ∧ 0 ≤ j ∧ j ≤ 1000 ∧ ds.length ≤ 1000
      · rw [if_pos c] at h
        cases h
        refine .inr ⟨a, j, xs, rfl, rfl, .inl (.inr ⟨_, hid_le _ _ ha⟩), fun e => ?_, c.2.1, c.2.2.1, by rw [ra.length]; exact c.2.2.2, fun e => ?_, fun e p o' hp pl => q _ _ (Ex.new hp) (.tup (new_ok al hp) pl ((ra.rep j.toNat).ex (hid_ex (Ex.new hp))))⟩
        · subst e
          cases ra
          exact c.1 rfl
        · subst e
          refine q _ H (Ex.refl H) ?_
          have e : (List.replicate (1 : Int).toNat ds).flatten = ds := by simp
          rw [e]
          exact .tup ha pa ra
      · rw [if_neg c] at h; cases h
    | _ => cases h
  | int i => exact .inl (so_mul _ _ z (by cases y <;> exact h) S H _ vy al (.int i) ry Q q)
  | lst ha ra => exact .inl (so_mul _ _ z (by cases y <;> exact h) S H _ vy al (.lst ha ra) ry Q q)
  | _ => cases y <;> cases h
end
end Uv

namespace Uv
open PySem PySem.Spec PyProof.Rows L2
open Evl (Ex)
def rGtD (K : PySem.W.Frag) : R2 := fun x y H Q => ∃ d e, Dp K H x d ∧ Dp K H y e ∧ SeqAt.shaped d = true ∧ PySem.W.alike d e = true ∧ d ≠ .none ∧ Q (.bl (PySem.W.dataLt e d)) H
theorem shaped_dep {d : PyData} (h : SeqAt.shaped d = true) : d.depth ≤ 64 := by
  unfold SeqAt.shaped at h
  rw [Bool.and_eq_true] at h
  exact of_decide_eq_true h.2
theorem op_gtD {X : Cx} (hu : X.A.units + 64 < cLine) : OpR X (compareOp .Gt) (rGtD X.K) := by
  intro pins s σ H x y v u Q I rx ry h
  obtain ⟨d, e, hd, he, sd, al, hn, q⟩ := h
  obtain ⟨as, r1⟩ := Dp.reads I d x v hd rx
  obtain ⟨bs, r2⟩ := Dp.reads I e y u he ry
  have := shaped_dep sd
  exact PySem.W.gt_data r1 r2 al hn (by omega) ⟨.bl _, H, I, rfl, q⟩
variable [kk : KK]
def rGtU (K : PySem.W.Frag) : R2 := fun x y H Q => oGt x y H Q ∨ rGtD K x y H Q
theorem op_gtU {X : Cx} (hu : X.A.units + 64 < cLine) : OpR X (compareOp .Gt) (rGtU X.K) := OpR.or op_gt (op_gtD hu)
def gtU : PD → PD → Option PD
  | .int i, .int j => some (.bool (decide (j < i)))
  | x, y => if SeqAt.shaped x = true ∧ SeqAt.shaped y = true ∧ PySem.W.alike x y = true ∧ isNone x = false then some (.bool (PySem.W.dataLt y x)) else none
omit kk in
theorem gtU_eq {x y z : PD} (h : gtU x y = some z) : (∃ i j, x = .int i ∧ y = .int j ∧ z = .bool (decide (j < i))) ∨ (SeqAt.shaped x = true ∧ SeqAt.shaped y = true ∧ PySem.W.alike x y = true ∧ isNone x = false ∧ z = .bool (PySem.W.dataLt y x)) := by
  unfold gtU at h
  split at h
  · cases h
    exact .inl ⟨_, _, rfl, rfl, rfl⟩
  · split at h
    · rename_i c
      cases h
      exact .inr ⟨c.1, c.2.1, c.2.2.1, c.2.2.2, rfl⟩
    · cases h
theorem so_gtU : SO (rGtU K) gtU := fun x y z h S H vx vy al rx ry Q q => by
  rcases gtU_eq h with ⟨i, j, rfl, rfl, rfl⟩ | ⟨c1, c2, c3, c4, rfl⟩
  · cases rx; cases ry
    exact .inl ⟨i, j, rfl, rfl, q _ H (Ex.refl H) (.bl _)⟩
  · refine .inr ⟨x, y, (rx.ex hid_le).dp (nodict c1), (ry.ex hid_le).dp (nodict c2), c1, c3, ?_, q _ H (Ex.refl H) (.bl _)⟩
    rintro rfl
    exact nomatch c4
end Uv

namespace Uv
open PySem PySem.Spec PyProof.Rows L2
open Evl (Ex)
section
variable {prog : Program} {w : World} {A : Around} {E : Value → Shared → Prop} {s : Shared}
end
section
variable {prog : Program} {w : World} {A : Around} {E : Value → Shared → Prop} {s : Shared}
end
variable [kk : KK]
section
variable {S : Hs} {H : Hp}
end
section
variable {ts : TA}
end
end Uv

namespace Uv
open PySem PySem.Spec PyProof.Rows L2
open Evl (Ex)
section
variable {X : Cx} {ta : TE} {a : Expr} {p p2 q pos : Pos}
end
variable [kk : KK]
def insS (x : Int) : List Int → List Int
  | [] => [x]
  | y :: l => if x < y then x :: y :: l else if x = y then y :: l else y :: insS x l
def setS : List Int → List Int
  | [] => []
  | x :: l => insS x (setS l)
end Uv

namespace Uv
open PySem PySem.Spec PyProof.Rows L2
open Evl (Ex)
theorem u1 {k : Nat} {A : Around} (r : Room k A) : A.units + 1 < cLine := by have := r.un; omega
variable [kk : KK]
def hasD (l : List (Int × PD)) (n : Int) : Bool := l.any fun kv => decide (kv.1 = n)
def getD (l : List (Int × PD)) (n : Int) : Option PD := (l.find? fun kv => decide (kv.1 = n)).map (·.2)
section
variable {pn : Pn} {F : Hs} {T : Trs} {H : Hp} {σ : L2.St} {ρ : Env}
end
section
variable {tk te : TE} {k : XE} {w : XW}
end
end Uv

namespace Uv
open PySem PySem.Spec PyProof.Rows L2
open Evl (Ex)
variable [kk : KK]
end Uv

namespace Uv
open PySem PySem.Spec PyProof.Rows L2
open Evl (Ex)
variable [kk : KK]
end Uv

namespace Uv
open PySem PySem.Spec PyProof.Rows L2
open Evl (Ex)
variable [kk : KK]
end Uv

namespace Uv
open PySem PySem.Spec PyProof.Rows L2
open Evl (Ex)
section
variable {X : Cx}
end
end Uv

namespace Uv
open PySem PySem.Spec PyProof.Rows L2
open Evl (Ex)
variable [kk : KK]
end Uv

namespace Uv
open PySem PySem.Spec PyProof.Rows L2
open Evl (Ex)
variable [kk : KK]
end Uv

namespace Uv
open PySem PySem.Spec PyProof.Rows L2
open Evl (Ex)
variable [kk : KK]
structure AlsD (σ : L2.St) (H : Hp) : Prop where
  ex : ∃ a vs c, σ[0]? = some (some (.ref a)) ∧ H a = some (.lst vs) ∧ vs[2]? = some (.ref c) ∧ σ[4]? = some (some (.ref c))
section
variable {pn : Pn} {F : Hs} {T : Trs} {H H' : Hp} {σ : L2.St} {ρ : Env}
end

section
variable {pn : Pn} {F : Hs} {T : Trs} {H H' : Hp} {σ : L2.St} {c : PD} {r : List PD} {n b t0 b0 : Int} {m : PD} {z6 z7 : Sl}
end
end Uv

namespace Uv
open PySem PySem.Spec PyProof.Rows L2
open Evl (Ex)
variable [kk : KK]
end Uv

namespace Uv
open PySem PySem.Spec PyProof.Rows L2
open Evl (Ex)
variable [kk : KK]
end Uv

namespace Uv
open PySem PySem.Spec PyProof.Rows L2
open Evl (Ex)
variable [kk : KK]
end Uv

namespace Uv
open PySem PySem.Spec PyProof.Rows L2
open Evl (Ex)
section
variable {prog : Program} {w : World} {A : Around} {E : Value → Shared → Prop} {s : Shared}
end
section
variable {prog : Program} {w : World} {A : Around} {E : Value → Shared → Prop} {s : Shared}
end
variable [kk : KK]
section
variable {S : Hs} {H : Hp}
end
section
variable {ts : TA}
end
end Uv

namespace Uv
open PySem PySem.Spec PyProof.Rows L2
open Evl (Ex)
variable [kk : KK]
end Uv

namespace Uv
open PySem PySem.Spec PyProof.Rows L2
open Evl (Ex)
section
variable {prog : Program} {w : World} {A : Around} {E : Value → Shared → Prop} {s : Shared}
end
section
variable {prog : Program} {w : World} {A : Around} {E : Value → Shared → Prop} {s : Shared}
end
variable [kk : KK]
section
variable {S : Hs} {H : Hp}
end
section
variable {ts : TA}
end
end Uv

namespace Uv
open PySem PySem.Spec PyProof.Rows L2
open Evl (Ex)
section
variable {X : Cx}
end
variable [kk : KK]
end Uv

namespace Uv
open PySem PySem.Spec PyProof.Rows L2
open Evl (Ex)
variable [kk : KK]
end Uv

namespace Uv
open PySem PySem.Spec PyProof.Rows L2
open Evl (Ex)
variable [kk : KK]
end Uv

namespace Uv
open PySem PySem.Spec PyProof.Rows L2
open Evl (Ex)
variable [kk : KK]
end Uv

namespace Uv
open PySem PySem.Spec PyProof.Rows L2
open Evl (Ex)
variable [kk : KK]
end Uv

namespace Uv
open PySem PySem.Spec PyProof.Rows L2
open Evl (Ex)
section
variable {P : Program} {w : World} {K : PySem.W.Frag} {mg : Str → Option Value} {base : Heap}
theorem pmk_own0 {X : Cx} {C : Addr} {bmB : List Value} {B newId initId : String} {x : Str} {p pos : Pos} (F : ExcBaseFacts B newId initId bmB) (q : PySem.W.excIn X.K C bmB newId = true) (gC : X.mg x = some (.ref C))
    (kC : PySem.W.keepIn X.K (.ref C) = true) (r : Raises X (.ref C)) (hg : Gl X x) (hdb : (x == ("__debug__" : Str)) = false := by decide) :
    PMk X (.Call (.Name x p) [] [] pos) (fun _ H Q => Q (.ref C) none H) := by
  intro pins s σ H Q I h
  refine wpAny_Call_Name_kw (ld_glob I hg gC ?_ hdb)
  refine PySem.W.callWith_K0 I.kIn kC ?_
  obtain ⟨bm, N, nm, qn, bs, hdct, sn, sub, ab, col, dd, k0, k1, k2, k3, k5, mN, hC, hN, hni, T⟩ := exc_obj I.kIn q
  refine wpAny_call_exc_subT F T hC hN hni (fun h' e hm => ?_) (by show 0 ≤ _; exact Nat.zero_le _)
  exact mk_of I hm r h (I.hok.gone hm.new)
end
theorem takes_no {X : Cx} : Takes X (fun _ _ _ _ => False) := fun _ _ x => by
  obtain ⟨_, _, _, _, _, _, _, _, _, _, _, _, _, _, _, _, z⟩ := x
  exact z.elim
variable [kk : KK]
section
variable {W : WX} {cl : Nat → Value} {t u : TS} {x y : XS} {ct : TT} {c : XWT}
end
end Uv

namespace Uv
open PySem PySem.Spec PyProof.Rows L2
open Evl (Ex)
theorem kit_ref {K : PySem.W.Frag} {t : Value} {C : Addr} {b : Bool} (hd : PySem.W.hasDictIn K C = true) (ht : PySem.W.typeIn K (.ref C) = some (.type "type")) (h : PySem.W.subIn K t (.ref C) = some b) (hs : t = .ref C → b = true) : PySem.W.kitOne K t (.ref C) = some b := by
  obtain ⟨cd, hc, _⟩ := PySem.W.any_some hd
  unfold PySem.W.kitOne
  by_cases z : (t == Value.ref C) = true
  · rw [if_pos z, hs (by simpa using z)]
  · rw [if_neg z]
    unfold PySem.W.kitCls
    have e2 : ((PySem.W.clsIn K C).isSome && PySem.W.typeIn K (.ref C) == some (.type "type")) = true := by rw [hc, ht] <;> rfl
    show (if ((PySem.W.clsIn K C).isSome && PySem.W.typeIn K (.ref C) == some (.type "type")) = true then PySem.W.subIn K t (.ref C) else none) = some b
    rw [if_pos e2, h]
theorem kit_VE {K : PySem.W.Frag} {C : Addr} {b : Bool} (h : PySem.W.subIn K (.ref C) (.type "ValueError") = some b) : PySem.W.kitOne K (.ref C) (.type "ValueError") = some b := by
  unfold PySem.W.kitOne
  rw [if_neg (by simp)]
  show (if PySem.W.kitMeta "ValueError" = true then PySem.W.subIn K (.ref C) (.type "ValueError") else none) = some b
  rw [if_pos (by decide +kernel), h]
variable [kk : KK]
end Uv

namespace Uv
open PySem PySem.Spec PyProof.Rows L2
open Evl (Ex)
variable [kk : KK]
end Uv

namespace Uv
open PySem PySem.Spec PyProof.Rows L2
open Evl (Ex)
section
variable {P : Program} {w : World} {K : PySem.W.Frag} {mg : Str → Option Value} {base : Heap}
end
end Uv

namespace Uv
open PySem PySem.Spec PyProof.Rows L2
open Evl (Ex)
variable [kk : KK]
section
variable {W : WX} {cl : Nat → Value}
end
end Uv

namespace Uv
open PySem PySem.Spec PyProof.Rows L2
open Evl (Ex)
section
variable {P : Program} {w : World} {K : PySem.W.Frag} {mg : Str → Option Value} {base : Heap}
end
variable [kk : KK]
section
variable {X : Cx} {j k : Nat} {x kw : Str} {sp : Sp} {p pos kpos : Pos} {e ke : Expr} {es : List Expr} {t : TA} {te : TE}
end
end Uv

namespace Uv
open PySem PySem.Spec PyProof.Rows L2
open Evl (Ex)
variable [kk : KK]
end Uv

namespace Uv
open PySem PySem.Spec PyProof.Rows L2
open Evl (Ex)
variable [kk : KK]
end Uv

namespace Uv
open PySem PySem.Spec PyProof.Rows L2
open Evl (Ex)
variable [kk : KK]
end Uv
namespace Uv
end Uv

namespace Uv
open PySem PySem.Spec PyProof.Rows L2
open Evl (Ex)
section
variable {prog : Program} {w : World} {A : Around}
end
variable [kk : KK]
section
variable {X : Cx} {ta te : TE} {a ke : Expr} {p pos kpos : Pos}
end
end Uv

namespace Uv
open PySem PySem.Spec PyProof.Rows L2
open Evl (Ex)
section
variable {prog : Program} {w : World} {A : Around} {K : Type} [DecidableEq K]
end
section
variable {X : Cx} {ta : TE} {a : Expr} {p p2 q pos : Pos}
end
variable [kk : KK]
end Uv

namespace Uv
open PySem PySem.Spec PyProof.Rows L2
open Evl (Ex)
section
variable {P : Program} {w : World} {A : Around}
end
variable [kk : KK]
end Uv

namespace Uv
open PySem PySem.Spec PyProof.Rows L2
open Evl (Ex)
section
variable {prog : Program} {w : World} {A : Around}
end
variable [kk : KK]
end Uv

namespace Uv
open PySem PySem.Spec PyProof.Rows L2
open Evl (Ex)
variable [kk : KK]
end Uv

namespace Uv
open PySem PySem.Spec PyProof.Rows L2
open Evl (Ex)
variable [kk : KK]
end Uv

namespace Uv
open PySem PySem.Spec PyProof.Rows L2
open Evl (Ex)
section
variable {X : Cx} {o e : Expr} {to te : TE}
end
variable [kk : KK]
section
variable {ta tb : TE} {a b : XE} {r : V → List V → Hp → VK → Prop}
end
end Uv

namespace Uv
open PySem PySem.Spec PyProof.Rows L2
open Evl (Ex)
def spI (C : Addr) (fld : Str) : Sp := fun vs H Q E => ∃ (a : Addr) (v : V), vs = [.ref a, v] ∧ H a = some (exo a C none) ∧ ∀ dx, H dx = none → dx ≠ a → Q .non (upd (upd H dx (exd dx [(fld, v)])) a (exo a C (some dx)))
theorem fn_init {P : Program} {w : World} {K : PySem.W.Frag} {mg : Str → Option Value} {base : Heap} {CX : CXT} {C f : Addr} {fld name qual : Str} {params : Arguments} {body : List Stmt} {scope : Scope} {dV kV doc pm cdv ct oc : Value} {an od : Option Addr}
    {osl : Array (Option Value)} (lk : K.lookup f = some ⟨oc, od, .func (PySem.W.fnOf name qual params body scope dV kV doc pm an cdv ct), osl⟩) (hcd : PySem.W.codeIn K cdv qual = true) (S : FnScope ["self", fld] ["self", fld] scope)
    (T : OexC K C) (hno : PySem.W.findIn K (.ref C) fld = some none)
    (hb : ∀ (A : Around) (outer : List PySem.Env) (s : Shared) (H : Hp) (E : XK), PSs (cxOf CX P w K mg base ["self", fld] qual scope f cdv A outer s H E) body (tOst K fld (tVar 0) (tVar 1))) :
    FnOk P w K mg base CX 1 f (PySem.W.fnOf name qual params body scope dV kV doc pm an cdv ct) ["self", fld] (spI C fld) := by
  refine fn_of lk hcd S (fun vs H Q E h => ?_) fun A outer s H vs Q E hr h => ⟨_, hb A outer s H E, ?_⟩
  · obtain ⟨a, v, rfl, _⟩ := h
    rfl
  · obtain ⟨a, v, rfl, ea, q⟩ := h
    exact ⟨v, rfl, .ref a, rfl, a, C, rfl, T, hno, .inl ⟨ea, fun dx hn hne => q dx hn hne⟩⟩
variable [kk : KK]
section
variable {W : WX} {cl : Nat → Value} {fld : Str} {t u : TS} {x y : XS} {ct : TT} {c : XWT}
theorem ex_let {H : Hp} {a dx : Addr} {u u' : HO} {o o' : HO} (ha : H a = none) (hd : H dx = none) : Ex H (upd (L2.del (upd (upd (upd H a u) dx u') a o) a) dx o') := fun b z e => by
  have b1 : b ≠ a := fun e1 => by rw [e1, ha] at e; cases e
  have b2 : b ≠ dx := fun e1 => by rw [e1, hd] at e; cases e
  rw [upd_ne b2, del_ne b1, upd_ne b1, upd_ne b2, upd_ne b1]
  exact e
end
end Uv

namespace Uv
open PySem PySem.Spec PyProof.Rows L2
open Evl (Ex)
theorem kitx_exD {K : PySem.W.Frag} {D x : Addr} {ox : Obj} {od : Option Obj} (C : ExcC K D) : PySem.W.KitX K (.ref x) (.ref D) (fun h => PySem.W.InstAt h x ox D od) :=
  PySem.W.kitx_exc (by obtain ⟨cd, hc, _⟩ := PySem.W.any_some C.hd; rw [hc]; rfl) C.hg C.hk C.hs C.ha C.hn C.ht C.hm
end Uv

namespace Uv
open PySem PySem.Spec PyProof.Rows L2
open Evl (Ex)
variable [kk : KK]
section
variable {W : WX} {cl : Nat → Value} {fld : Str}
end
end Uv

namespace Uv
open PySem PySem.Spec PyProof.Rows L2
open Evl (Ex)
variable [kk : KK]
end Uv

namespace Uv
open PySem PySem.Spec PyProof.Rows L2
open Evl (Ex)
section
variable {X : Cx}
end
variable [kk : KK]
end Uv

namespace Uv
open PySem PySem.Spec PyProof.Rows L2
open Evl (Ex)
theorem oex_cls {K : PySem.W.Frag} {C : Addr} {o : Obj} (l : K.lookup C = some o) (q : oexO C o = true) :
    ∃ nm q N bs bm sn sub ab col dd k0 k1 k2 k3 k5, K.lookup C = some (excClassObj nm q C N bs bm true sn sub ab col dd k0 k1 k2 k3 k5 "ValueError.__new__") ∧ PySem.HandSPX.refsVE bm = true := by
  unfold oexO at q
  split at q
  · rename_i dd cd sl
    split at q
    · rename_i C' bm k0 k1 k2 k3 n k5 hm hs
      simp only [Bool.and_eq_true, beq_iff_eq, Bool.not_eq_true'] at q
      obtain ⟨⟨⟨⟨rfl, rfl⟩, hdel⟩, hdct⟩, ht⟩ := q
      obtain ⟨nm, bs, mro, ns, qn, hd, sn, sub, ab, col, del⟩ := cd
      dsimp only at hm hdel hdct
      subst hm hdel hdct
      have hsl : sl = #[k0, k1, k2, k3, some (.builtin "ValueError.__new__"), k5] := by
        obtain ⟨l⟩ := sl
        simp only at hs
        rw [hs]
      subst hsl
      exact ⟨nm, qn, ns, bs, bm, sn, sub, ab, col, dd, k0, k1, k2, k3, k5, l, ht⟩
    · cases q
  · cases q
structure InitOk (P : Program) (w : World) (K : PySem.W.Frag) (mg : Str → Option Value) (base : Heap) (x : Str) (C : Addr) (fld : Str) : Prop where
  ex : ∃ (fI : Addr) (fd : FuncData), OexC K C ∧ PySem.W.findIn K (.ref C) "__init__" = some (some (.ref fI)) ∧ PySem.W.typeIn K (.ref fI) = some (.type "function") ∧ FnOk P w K mg base (L2.CX P w) 1 fI fd ["self", fld] (spI C fld) ∧ Binds K fd ["self", fld] [] ∧ mg x = some (.ref C)
theorem init_ok {P : Program} {w : World} {K : PySem.W.Frag} {mg : Str → Option Value} {base : Heap} {x qual : Str} {C f : Addr} {fld : Str} {st : Stmt} {o : Obj} {kV doc pm cdv ct oc : Value} {an od : Option Addr} {osl : Array (Option Value)}
    (hm : mg x = some (.ref C)) (lc : K.lookup C = some o) (ob : oexO C o = true) (sa : PySem.W.findIn K (.ref C) "__setattr__" = some (some (.builtin "object.__setattr__"))) (exC : PySem.W.subIn K (.ref C) (.type "BaseException") = some true) (tyC : PySem.W.typeIn K (.ref C) = some (.type "type")) (kC : PySem.W.keepIn K (.ref C) = true)
    (iC : PySem.W.findIn K (.ref C) "__init__" = some (some (.ref f))) (tI : PySem.W.typeIn K (.ref f) = some (.type "function")) (no : PySem.W.findIn K (.ref C) fld = some none)
    (lk : K.lookup f = some ⟨oc, od, .func (PySem.W.fnOf "__init__" qual (defArgs st) (defBody st) (defScope st) .none kV doc pm an cdv ct), osl⟩) (hcd : PySem.W.codeIn K cdv qual = true) (S : FnScope ["self", fld] ["self", fld] (defScope st))
    (hbi : ∀ (kV doc pm : Value) (an : Option Addr) (cdv ct : Value) (us : List Value), us.length = 2 → bindArgs (PySem.W.fnOf "__init__" qual (defArgs st) (defBody st) (defScope st) .none kV doc pm an cdv ct) ⟨us, []⟩ = pure ((["self", fld] : List Str).zip us))
    (hb : ∀ (A : Around) (outer : List PySem.Env) (s : Shared) (H : Hp) (E : XK), PSs (cxOf (L2.CX P w) P w K mg base ["self", fld] qual (defScope st) f cdv A outer s H E) (defBody st) (tOst K fld (tVar 0) (tVar 1))) : InitOk P w K mg base x C fld := by
  have T : OexC K C := ⟨oex_cls lc ob, sa, exC, tyC, kC⟩
  exact ⟨f, _, T, iC, tI, fn_init lk hcd S T no hb, .all (hbi kV doc pm an cdv ct), hm⟩
end Uv

namespace Uv
open PySem PySem.Spec PyProof.Rows L2
open Evl (Ex)
variable [kk : KK]
end Uv

namespace Uv
open PySem PySem.Spec PyProof.Rows L2
open Evl (Ex)
variable [kk : KK]
end Uv

namespace Uv
open PySem PySem.Spec PyProof.Rows L2
open Evl (Ex)
section
variable {X : Cx}
end
end Uv

namespace Uv
open PySem PySem.Spec PyProof.Rows L2
open Evl (Ex)
variable [kk : KK]
end Uv
namespace Uv
open PySem PySem.Spec PyProof.Rows L2
end Uv

namespace Uv
open PySem PySem.Spec PyProof.Rows L2
open Evl (Ex)
variable [kk : KK]
def SQ (S : Hs) (a : Addr) (qs : List Addr) : Hs := fun x => x = a ∨ x ∈ qs ∨ S x
structure Lts (S : Hs) (H0 : Hp) (a : Addr) (n : Nat) (kvs : List (Key × V)) (qs : List Addr) (sel : Int → List PD) (H : Hp) : Prop where
  dk : H a = some (.dK kvs)
  len : kvs.length ≤ n
  look : ∀ k : Int, (valV kvs (.inl k) = none ∧ sel k = []) ∨ ∃ q vs, valV kvs (.inl k) = some (.ref q) ∧ q ∈ qs ∧ H q = some (.lst vs) ∧ vs.length ≤ n ∧ RpAll (hid (SQ S a qs) H) vs (sel k)
  inj : ∀ (k k' : Int) q, valV kvs (.inl k) = some (.ref q) → valV kvs (.inl k') = some (.ref q) → k = k'
  na : a ∉ qs
  fa : H0 a = none
  fq : ∀ q ∈ qs, H0 q = none
  ex : Ex H0 H
  al : Al (SQ S a qs) H
end Uv

namespace Uv
open PySem PySem.Spec PyProof.Rows L2
open Evl (Ex)
variable [kk : KK]
end Uv

namespace Uv
open PySem PySem.Spec PyProof.Rows L2
open Evl (Ex)
variable [kk : KK]
end Uv

namespace Uv
open PySem PySem.Spec PyProof.Rows L2
open Evl (Ex)
section
variable {prog : Program} {w : World} {A : Around}
end
def rSetL (w : World) (K : PySem.W.Frag) : List V → Hp → VK → Prop := fun xs H Q => ∃ (l : Addr) (ns : List Int), xs = [.ref l] ∧ SqL K H l (ns.map V.int) ∧ ns.length ≤ 4000 ∧ ∀ a : Addr, H a = none → Q (.ref a) (upd H a (SetO w a (fun j => decide (j ∈ ns)) (setS ns).length))
variable [kk : KK]
end Uv

namespace Uv
open PySem PySem.Spec PyProof.Rows L2
open Evl (Ex)
variable [kk : KK]
end Uv

namespace Uv
open PySem PySem.Spec PyProof.Rows L2
open Evl (Ex)
section
variable {X : Cx}
end
variable [kk : KK]
end Uv

namespace Uv
open PySem PySem.Spec PyProof.Rows L2
open Evl (Ex)
structure OexL (K : PySem.W.Frag) (C : Addr) : Prop where
  ini : PySem.W.excInitIn K C leTail "LookupError.__new__" = true
  ov : PySem.W.excOver K C leTail = true
  hd : PySem.W.hasDictIn K C = true
  sa : PySem.W.findIn K (.ref C) "__setattr__" = some (some (.builtin "object.__setattr__"))
  exC : PySem.W.subIn K (.ref C) (.type "BaseException") = some true
  tyC : PySem.W.typeIn K (.ref C) = some (.type "type")
  kC : PySem.W.keepIn K (.ref C) = true
theorem oexL_ok {K : PySem.W.Frag} {C : Addr} {o : Obj} (l : K.lookup C = some o) (q : oexL C o = true) :
    PySem.W.excInitIn K C leTail "LookupError.__new__" = true ∧ PySem.W.excOver K C leTail = true ∧ PySem.W.hasDictIn K C = true := by
  unfold oexL at q
  split at q
  · rename_i dd cd sl
    split at q
    · rename_i C' bm k0 k1 k2 k3 n k5 hm hs
      simp only [Bool.and_eq_true, beq_iff_eq, Bool.not_eq_true'] at q
      obtain ⟨⟨⟨⟨rfl, rfl⟩, hdel⟩, ht⟩, hdct⟩ := q
      refine ⟨?_, ?_, ?_⟩
      · unfold PySem.W.excInitIn
        rw [l]
        simp only [hm, hs, hdel, ht]
        simp
      · unfold PySem.W.excOver PySem.W.clsIn
        rw [l]
        simp [hm, ht]
      · unfold PySem.W.hasDictIn PySem.W.clsIn
        rw [l]
        simp [hdct]
    · cases q
  · cases q
section
variable {X : Cx} {pins : List (Addr × Obj)} {σ : L2.St} {H : Hp} {s : Shared} {a C : Addr} {f : Str} {y : V} {u : Value} {Q : Unit → Shared → Prop} {E : Value → Shared → Prop}
theorem ost_newL (T : OexL X.K C) (I : Inv X pins σ H s) (e : H a = some (exo a C none)) (hno : PySem.W.findIn X.K (.ref C) f = some none) (ry : RelV y u)
    (h : ∀ dx s', H dx = none → dx ≠ a → Inv X pins σ (upd (upd H dx (exd dx [(f, y)])) a (exo a C (some dx))) s' → Q () s') : wpAny (model X.prog X.w) X.A (setAttr (.ref a) f u) Q E s := by
  obtain ⟨t1, ho⟩ := exo_at I.hok e
  obtain ⟨hp, g, d, t, os⟩ := s
  refine PySem.W.set_plain I.kIn (od := none) ⟨ho, rfl, rfl, trivial⟩ T.sa ?_
  refine PySem.W.osa_openX (r := none) (od := none) PySem.F.store_LookupError I.kIn ⟨ho, rfl, rfl, trivial⟩ T.ov (by unfold PySem.W.takerIn; rw [hno]; rfl) fun b => ?_
  obtain ⟨cd, hc, hd'⟩ := PySem.W.any_some T.hd
  refine wpAny_bind (wpAny_pure (wpAny_bind (PySem.W.instanceDict_exc ho (PySem.W.looks_clsIn I.kIn hc) hd' ?_)))
  have han : a ≠ hp.objs.size := Nat.ne_of_lt (Heap.lt_size ho)
  have hna : hp.objs.size ≠ a := Ne.symm han
  have hfr : H hp.objs.size = none := I.hok.fresh (Nat.le_refl _)
  show wpAny _ _ (Builtin.ObjectAttr.storeInDict hp.objs.size (.str f _) f u) _ _ _
  refine PySem.HandSPX.store_in_new ⟨_, #[], _, (Heap.get?_update_ne _ _ _ _ hna).trans (Heap.get?_push_at rfl rfl), rfl, fun e he => absurd he (by simp), fun _ => rfl⟩ fun h' tk' hn hs => ?_
  have hx' : h'.get? a = some ({ cls := .ref C, dict := some hp.objs.size, data := .fields #[.ref t1, .none, .none, .none, .bool false, .none] } : Obj) := (hs.2 a han).trans (Heap.get?_update_self _ (Heap.get?_push_of_some _ ho) rfl)
  have kb : ∀ b o, b ≠ a → hp.get? b = some o → h'.get? b = some o := fun b o hb eb =>
    (hs.2 b (Nat.ne_of_lt (Heap.lt_size eb))).trans ((Heap.get?_update_ne _ _ _ _ hb).trans (Heap.get?_push_of_some _ eb))
  -- the heap with the dict, ahead of the object's own change
  let h1 := h'.update a fun _ => ({ cls := .ref C, dict := none, data := .fields #[.ref t1, .none, .none, .none, .bool false, .none] } : Obj)
  have g1 : ∀ b, b ≠ a → h1.get? b = h'.get? b := fun b hb => Heap.get?_update_ne _ _ _ _ hb
  have I1 : Inv X pins σ (upd H hp.objs.size (exd hp.objs.size [(f, y)])) ⟨h1, g, d, t, os⟩ := by
    refine I.laid (t' := t) (h' := h1) (a := hp.objs.size) (fun b o eb => ?_) (Nat.le_refl _) (exd_ok (hn.at fun o q => (g1 _ hna).trans q) (relO_put (fs := []) ry fun g => True.intro))
    by_cases hb : b = a
    · subst hb
      rw [ho] at eb
      cases eb
      exact Heap.get?_update_self _ hx' rfl
    · exact (g1 b hb).trans (kb b o hb eb)
  have ea1 : upd H hp.objs.size (exd hp.objs.size [(f, y)]) a = some (exo a C none) := by rw [upd_ne han]; exact e
  exact h _ _ hfr hna (I1.write (t' := tk') (x := a) (e := a) (o := exo a C (some hp.objs.size)) (by rw [ea1]; exact True.intro) (.inl rfl) (fun b o hb eb => (g1 b hb).symm.trans eb) ⟨_, hx'⟩ (exo_ok hx'))
end
def tOstL (K : PySem.W.Frag) (f : Str) (to te : TE) : TS := fun D σ H => te σ H fun y H1 => to σ H1 fun x H2 => ∃ a C : Addr, x = .ref a ∧ OexL K C ∧ PySem.W.findIn K (.ref C) f = some none ∧
  H2 a = some (exo a C none) ∧ ∀ dx, H2 dx = none → dx ≠ a → D.nx σ (upd (upd H2 dx (exd dx [(f, y)])) a (exo a C (some dx)))
theorem ps_ostL {X : Cx} {o e : Expr} {to te : TE} {f : Str} {p' pos : Pos} (ho : PE X o to) (he : PE X e te) (hs : swapsWith e (some (.Attribute o f p')) pos.line X.env = pure false := by rfl) : PS X (.Assign [.Attribute o f p'] e pos) (tOstL X.K f to te) := by
  refine ⟨fun pins s σ H D I h => ?_⟩
  refine plainObj_wpAny_Assign_Attribute (thn (he.run pins s σ H _ I h) fun v s1 ⟨y, H1, I1, r1, q1⟩ => thn (ho.run pins s1 σ H1 _ I1 q1) fun u s2 ⟨x, H2, I2, r2, a, C, ex, T, hno, ea, q⟩ => ?_) hs
  subst ex
  obtain rfl : u = Value.ref a := r2
  exact ost_newL T I2 ea hno r1 fun dx s' n ne J => ⟨σ, _, J, q dx n ne⟩
theorem fn_initL {P : Program} {w : World} {K : PySem.W.Frag} {mg : Str → Option Value} {base : Heap} {CX : CXT} {C f : Addr} {fld name qual : Str} {params : Arguments} {body : List Stmt} {scope : Scope} {dV kV doc pm cdv ct oc : Value} {an od : Option Addr}
    {osl : Array (Option Value)} (lk : K.lookup f = some ⟨oc, od, .func (PySem.W.fnOf name qual params body scope dV kV doc pm an cdv ct), osl⟩) (hcd : PySem.W.codeIn K cdv qual = true) (S : FnScope ["self", fld] ["self", fld] scope)
    (T : OexL K C) (hno : PySem.W.findIn K (.ref C) fld = some none)
    (hb : ∀ (A : Around) (outer : List PySem.Env) (s : Shared) (H : Hp) (E : XK), PSs (cxOf CX P w K mg base ["self", fld] qual scope f cdv A outer s H E) body (tOstL K fld (tVar 0) (tVar 1))) :
    FnOk P w K mg base CX 1 f (PySem.W.fnOf name qual params body scope dV kV doc pm an cdv ct) ["self", fld] (spI C fld) := by
  refine fn_of lk hcd S (fun vs H Q E h => ?_) fun A outer s H vs Q E hr h => ⟨_, hb A outer s H E, ?_⟩
  · obtain ⟨a, v, rfl, _⟩ := h
    rfl
  · obtain ⟨a, v, rfl, ea, q⟩ := h
    exact ⟨v, rfl, .ref a, rfl, a, C, rfl, T, hno, ea, fun dx hn hne => q dx hn hne⟩
theorem pmk_oexL {X : Cx} {CX : CXT} {x : Str} {C fI : Addr} {k : Nat} {fd : FuncData} {ps : List Str} {sp : Sp} {e : Expr} {es : List Expr} {ta : TA} {p pos : Pos} (T : OexL X.K C) (iC : PySem.W.findIn X.K (.ref C) "__init__" = some (some (.ref fI))) (tI : PySem.W.typeIn X.K (.ref fI) = some (.type "function"))
    (F1 : FnOk X.prog X.w X.K X.mg X.base CX k fI fd ps sp) (hr : Room (k + 1) X.A) (hb : Binds X.K fd ps []) (hx : Passes CX X (fun _ _ _ => False)) (hg : Gl X x) (hm : X.mg x = some (.ref C)) (ha : PA X (e :: es) ta)
    (hdb : (x == ("__debug__" : Str)) = false := by decide) (he : starEach (e :: es) X.env = (false, eval e X.env) :: starEach es X.env := by rfl) (hpl : (backTo pos (starEach es X.env)).any (·.1) = false := by rfl) :
    PMk X (.Call (.Name x p) (e :: es) [] pos) (tMkO C sp [] ta) := by
  intro pins s σ H Q I h
  refine wpAny_Call_Name_kw (ld_glob I hg hm ?_ hdb)
  refine PySem.W.callWith_K (h₀ := X.base) I.ok.mod.kin T.kC (thn (ha.run pos pins s σ H _ I h) fun us s1 ⟨vs, H1, I1, r1, hz, q1⟩ => ⟨I1.kIn, ?_⟩) he hpl
  obtain ⟨nm, N, q, bs, bm, hdct, sn, sub, ab, col, dd, k0, k1, k2, k3, k5, hC, hT⟩ := PySem.W.excInit_of I1.kIn T.ini
  obtain ⟨hp, g, dr, tk, os⟩ := s1
  obtain ⟨n, en⟩ : ∃ n, n = hp.objs.size + 1 := ⟨_, rfl⟩
  have hsz : hp.objs.size ≤ n := by omega
  have hn : H1 n = none := I1.hok.fresh hsz
  have hq := q1 n hn
  have kk : ∀ b o, hp.get? b = some o → ((hp.push (PySem.W.kdv_tup us)).push (PySem.HandSPX.excO C hp.objs.size)).get? b = some o := fun b o e => Heap.get?_push_of_some _ (Heap.get?_push_of_some _ e)
  have hget : ((hp.push (PySem.W.kdv_tup us)).push (PySem.HandSPX.excO C hp.objs.size)).get? n = some (PySem.HandSPX.excO C hp.objs.size) := by rw [en]; heap_get
  have I2 := I1.laid (t' := tk) (a := n) (o := exo n C none) kk hsz (exo_ok hget)
  rw [List.append_nil] at hq
  have r2 : Vals (V.ref n :: vs) (Value.ref n :: us) := .cons rfl r1
  have hl : (Value.ref n :: us).length = ps.length := by
    have e := r2.length
    rw [F1.len _ _ _ _ hq] at e
    exact e.symm
  have hus : us.length ≤ sizeLine := by
    rw [← Paired.length r1, sizeLine_eq]
    omega
  have bd := hb ⟨(hp.push (PySem.W.kdv_tup us)).push (PySem.HandSPX.excO C hp.objs.size), g, dr, tk, os⟩ (Value.ref n :: us) I2.kIn (by rw [List.append_nil]; exact hl)
  rw [List.append_nil] at bd
  subst en
  refine wpAny_call (PySem.HandSPX.call_own PySem.F.excBase_LookupError hT hC (PySem.W.looks_findIn I1.kIn iC) (fun self => PySem.W.bind_fn I1.kIn self tI) hus
    (codeAny_mono (F1.run _ X.stack _ _ ⟨Value.ref (hp.objs.size + 1) :: us, []⟩ _ _ _ (fun _ _ _ => False) (hr.make C us []) (I2.env0.make C us []) bd r2 hq) fun r s' hq' => ?_))
  match r, hq' with
  | .error er, hq' => exact hx pins σ _ _ er s' I2 hq'
  | .ok (.ret u), hq' =>
    obtain ⟨v, H2, os2, bare2, un2, hok2, rv, ev, d, fs, ea, ed, hd1, q2⟩ := hq'
    subst ev
    obtain ⟨h2, g2, d2, t2, os'⟩ := s'
    exact ⟨rv, mk_end (raises_own T.exC T.tyC) I1 hsz kk un2 hok2 os2 bare2 ea ed hd1 q2⟩
  | .ok .next, hq' => exact hq'.elim
  | .ok .brk, hq' => exact hq'.elim
  | .ok .cont, hq' => exact hq'.elim
structure InitL (P : Program) (w : World) (K : PySem.W.Frag) (mg : Str → Option Value) (base : Heap) (x : Str) (C : Addr) (fld : Str) : Prop where
  ex : ∃ (fI : Addr) (fd : FuncData), OexL K C ∧ PySem.W.findIn K (.ref C) "__init__" = some (some (.ref fI)) ∧ PySem.W.typeIn K (.ref fI) = some (.type "function") ∧ FnOk P w K mg base (L2.CX P w) 1 fI fd ["self", fld] (spI C fld) ∧ Binds K fd ["self", fld] [] ∧ mg x = some (.ref C)
theorem init_okL {P : Program} {w : World} {K : PySem.W.Frag} {mg : Str → Option Value} {base : Heap} {x qual : Str} {C f : Addr} {fld : Str} {st : Stmt} {o : Obj} {kV doc pm cdv ct oc : Value} {an od : Option Addr} {osl : Array (Option Value)}
    (hm : mg x = some (.ref C)) (lc : K.lookup C = some o) (ob : oexL C o = true) (sa : PySem.W.findIn K (.ref C) "__setattr__" = some (some (.builtin "object.__setattr__"))) (exC : PySem.W.subIn K (.ref C) (.type "BaseException") = some true) (tyC : PySem.W.typeIn K (.ref C) = some (.type "type")) (kC : PySem.W.keepIn K (.ref C) = true)
    (iC : PySem.W.findIn K (.ref C) "__init__" = some (some (.ref f))) (tI : PySem.W.typeIn K (.ref f) = some (.type "function")) (no : PySem.W.findIn K (.ref C) fld = some none)
    (lk : K.lookup f = some ⟨oc, od, .func (PySem.W.fnOf "__init__" qual (defArgs st) (defBody st) (defScope st) .none kV doc pm an cdv ct), osl⟩) (hcd : PySem.W.codeIn K cdv qual = true) (S : FnScope ["self", fld] ["self", fld] (defScope st))
    (hbi : ∀ (kV doc pm : Value) (an : Option Addr) (cdv ct : Value) (us : List Value), us.length = 2 → bindArgs (PySem.W.fnOf "__init__" qual (defArgs st) (defBody st) (defScope st) .none kV doc pm an cdv ct) ⟨us, []⟩ = pure ((["self", fld] : List Str).zip us))
    (hb : ∀ (A : Around) (outer : List PySem.Env) (s : Shared) (H : Hp) (E : XK), PSs (cxOf (L2.CX P w) P w K mg base ["self", fld] qual (defScope st) f cdv A outer s H E) (defBody st) (tOstL K fld (tVar 0) (tVar 1))) : InitL P w K mg base x C fld := by
  obtain ⟨z1, z2, z3⟩ := oexL_ok lc ob
  have T : OexL K C := ⟨z1, z2, z3, sa, exC, tyC, kC⟩
  exact ⟨f, _, T, iC, tI, fn_initL lk hcd S T no hb, .all (hbi kV doc pm an cdv ct), hm⟩
end Uv

namespace Uv
open PySem PySem.Spec PyProof.Rows L2
open Evl (Ex)
variable [kk : KK]
section
variable {W : WX} {cl : Nat → Value} {fld : Str}
end
theorem kit_LE {K : PySem.W.Frag} {C : Addr} {b : Bool} (h : PySem.W.subIn K (.ref C) (.type "LookupError") = some b) : PySem.W.kitOne K (.ref C) (.type "LookupError") = some b := by
  unfold PySem.W.kitOne
  rw [if_neg (by simp)]
  show (if PySem.W.kitMeta "LookupError" = true then PySem.W.subIn K (.ref C) (.type "LookupError") else none) = some b
  rw [if_pos (by decide +kernel), h]
end Uv

namespace Uv
open PySem PySem.Spec PyProof.Rows L2
open Evl (Ex)
variable [kk : KK]
section
variable {n : Nat} {t u : TS} {g : TG} {gs : TGs}
end
section
variable {n : Nat} {t u : TS} {x y : XS}
end
end Uv

namespace Uv
open PySem PySem.Spec PyProof.Rows L2
open Evl (Ex)
section
variable {prog : Program} {w : World} {A : Around} {E : Value → Shared → Prop} {s : Shared}
end
end Uv

namespace Uv
open PySem PySem.Spec PyProof.Rows L2
open Evl (Ex)
variable [kk : KK]
def isExz : PD → Option (Nat × List PD)
  | .dict [(.bool false, .int i), (.bool false, .list ds)] => some (i.toNat, ds)
  | _ => none
structure ExcAt (H : Hp) (S : Hs) (n : Nat) (ds : List PD) (C : Addr) (od : Option Addr) : Prop where
  cl : kk.cl n = some C
  at_ : ∃ xs, DcAt (hid S H) od (exFld n) xs ∧ RpAll (hid S H) xs ds
section
variable {W : WX} {t u : TS} {x y : XS} {ct : TT} {c : XWT}
end
abbrev XWZ := Env → Option (PD × Env)
section
variable {W : WX} {te : TE} {ts : TA} {x : XE} {as : XA} {f : List PD → Option PD}
end
section
variable {W : WX} {te : TE} {x : XWZ}
end
def hd1 : PD → Option (PD × List PD)
  | .tuple (d :: ds) => some (d, ds)
  | _ => none
end Uv

namespace Uv
open PySem PySem.Spec PyProof.Rows L2
open Evl (Ex)
section
variable {P : Program} {w : World} {K : PySem.W.Frag} {mg : Str → Option Value} {base : Heap}
end
section
variable {X : Cx} {j k : Nat} {C : Addr} {m : Str} {sp : Sp} {W : WX} {o e : Expr} {es : List Expr} {ta : TE} {t : TA} {apos pos : Pos}
end
end Uv

namespace Uv
open PySem PySem.Spec PyProof.Rows L2
open Evl (Ex)
variable [kk : KK]
section
variable {m : Str} {te : TE} {ts : TA} {x : XE} {as : XA} {f : List PD → Option PD} {W : WX}
end
def isHeld : PD → Option (Nat × List PD)
  | .dict [(.none, .int i), (.none, .list ds)] => some (i.toNat, ds)
  | _ => none
@[simp] theorem isHeld_heldD (n : Nat) (ds : List PD) : isHeld (heldD n ds) = some (n, ds) := rfl
theorem rp_held {H : Hp} {v : V} {d : PD} {n : Nat} {ds : List PD} (r : Rp H v d) (e : isHeld d = some (n, ds)) : ∃ (a C : Addr) (od : Option Addr) (xs : List V), v = .ref a ∧ kk.cl n = some C ∧ H a = some (ExH C od a) ∧ DcAt H od (exFld n) xs ∧ RpAll H xs ds := by
  cases r with
  | exo h1 h2 h3 h4 => cases e; exact ⟨_, _, _, _, rfl, h1, h2, h3, h4⟩
  | @dct a ks xs es ps h1 h2 h3 h4 =>
    exfalso
    subst h3
    cases ks with
    | nil => cases e
    | cons k ks => cases es <;> cases e
  | _ => cases e
def rIsX (K : PySem.W.Frag) : List V → Hp → VK → Prop := fun xs H Q => ∃ (a C : Addr) (od : Option Addr) (c : V) (cv : Value) (b : Bool), xs = [.ref a, c] ∧ H a = some (ExH C od a) ∧ (∀ dd, od = some dd → ∃ fs, H dd = some (.xd fs)) ∧ ExcC K C ∧ (∀ u, RelV c u → u = cv) ∧ PySem.W.kitOne K (.ref C) cv = some b ∧ Q (.bl b) H
theorem exh_at {X : Cx} {a C : Addr} {od : Option Addr} {pins : List (Addr × Obj)} {σ : L2.St} {H : Hp} {s : Shared} (I : Inv X pins σ H s) (ha : H a = some (ExH C od a)) (hd : ∀ dd, od = some dd → ∃ fs, H dd = some (.xd fs)) : ∃ ox oo, PySem.W.InstAt s.heap a ox C oo := by
  obtain ⟨⟨oe, vs, he, hz, hv⟩, _, _⟩ := (show ObjOk X.prog X.w H s.heap a (ExH C od a) from I.hok a _ ha)
  cases od with
  | none => exact ⟨oe, none, he, hz.1, by unfold PySem.W.notCls; rw [hv] <;> rfl, by rw [hz.2]; trivial⟩
  | some dd =>
    obtain ⟨fs, hf⟩ := hd dd rfl
    obtain ⟨mA, hns, hr⟩ := (show ObjOk X.prog X.w H s.heap dd (.xd fs) from I.hok dd _ hf)
    obtain ⟨o2, ho, hl⟩ := lookIn_ns hns
    exact ⟨oe, some o2, he, hz.1, by unfold PySem.W.notCls; rw [hv] <;> rfl, by rw [hz.2]; exact ho⟩
theorem call_isX {X : Cx} : CallR X (.builtin "isinstance") (rIsX X.K) := by
  intro pins s σ H xs us Q I r h
  obtain ⟨a, C, od, c, cv, b, rfl, ha, hd, hC, hcv, e, q⟩ := h
  cases r with
  | cons rx rr =>
    cases rr with
    | cons rt rr =>
      cases rr
      cases rx
      have ec := hcv _ rt
      subst ec
      obtain ⟨ox, oo, J⟩ := exh_at I ha hd
      exact PySem.W.kia_one (kitx_exD hC) I.kIn J e (fun z => nomatch z) fun tk => ⟨.bl b, H, I.kept (t' := tk) fun _ _ z => z, rfl, q⟩
theorem dc_xd {H : Hp} {od : Option Addr} {fs : List Str} {xs : List V} (h : DcAt H od fs xs) : ∀ dd, od = some dd → ∃ gs, H dd = some (.xd gs) := fun dd e => by
  cases fs with
  | nil => rw [h.1] at e; cases e
  | cons f fs =>
    obtain ⟨d2, h1, h2, _⟩ := h
    rw [h1] at e
    cases e
    exact ⟨_, h2⟩
def isX (tab : Nat → Option Bool) (d : PD) : Option PD := (isHeld d).bind fun p => (tab p.1).bind fun b => some (.bool b)
theorem se_isX {tab : Nat → Option Bool} {c : V} {cv : Value} {te : TE} {x : XE} (hE : ∀ n C, kk.cl n = some C → ExcC K C) (hc : ∀ u, RelV c u → u = cv) (ht : ∀ n C b, kk.cl n = some C → tab n = some b → PySem.W.kitOne K (.ref C) cv = some b) (hx : SE te x) :
    SE (tCB (rIsX K) (tCons te (tCons (tC c) tNil))) (xUn (isX tab) x) := fun ρ d e S σ H al en Q q => by
  obtain ⟨d0, h1, e⟩ := bind_some e
  obtain ⟨⟨n, es⟩, h2, e⟩ := bind_some e
  obtain ⟨b, h3, e⟩ := bind_some e
  cases e
  refine hx ρ _ h1 S σ H al en _ fun v H1 e1 rv => ?_
  obtain ⟨a, C, od, xs, rfl, k1, k2, k3, k4⟩ := rp_held rv h2
  exact ⟨a, C, od, c, cv, b, rfl, hid_le _ _ k2, fun dd ed => (let ⟨gs, g⟩ := dc_xd k3 dd ed; ⟨gs, hid_le _ _ g⟩), hE n C k1, hc, ht n C b k1 h3, q _ H1 e1 (.bl b)⟩
def tXat (K : PySem.W.Frag) (f : Str) (te : TE) : TE := fun σ H Q => te σ H fun x H1 => ∃ (a C dd : Addr) (fs : List (Str × V)) (v : V), x = .ref a ∧ H1 a = some (ExH C (some dd) a) ∧ XfC K C ∧ PySem.W.findIn K (.ref C) f = some none ∧ H1 dd = some (.xd fs) ∧ fs.lookup f = some v ∧ Q v H1
theorem pe_xat {X : Cx} {e : Expr} {te : TE} {pos : Pos} {n : Str} (he : PE X e te) (hb : attributeBase e n X.env (eval e X.env) = eval e X.env := by rfl) : PE X (.Attribute e n pos) (tXat X.K n te) := by
  refine ⟨fun pins s σ H Q I h => attr_of hb (thn (he.run pins s σ H _ I h) fun u s1 hh => ?_)⟩
  obtain ⟨x, H1, I1, rx, a, C, dd, fs, v, ex, ha, T, hno, hd, l, q⟩ := hh
  subst ex
  obtain rfl : u = Value.ref a := rx
  obtain ⟨⟨oe, vs, ho, hz, hv⟩, _, _⟩ := (show ObjOk X.prog X.w H1 s1.heap a (ExH C (some dd) a) from I1.hok a _ ha)
  obtain ⟨mA, hns, hr⟩ := (show ObjOk X.prog X.w H1 s1.heap dd (.xd fs) from I1.hok dd _ hd)
  obtain ⟨o2, ho2, hl⟩ := lookIn_ns hns
  obtain ⟨z, hu, ru⟩ := RelO.some_of (v := v) (o := mA n) (by rw [← l]; exact hr n)
  exact HandSPX.exc_get I1.kIn (⟨ho, hz.1, by unfold PySem.W.notCls; rw [hv] <;> rfl, by rw [hz.2]; exact ho2⟩ : PySem.W.InstAt s1.heap a oe C (some o2)) T.ga T.gg T.exC (PySem.W.findObj_own T.hdC hno rfl (by rw [hl, hu])) (handed_of ru) ⟨v, H1, I1.tok _, ru, q⟩
def xatD (f : Str) (d : PD) : Option PD := (isHeld d).bind fun p => ((exFld p.1).zip p.2).lookup f
theorem zip_rp {H : Hp} {f : Str} {d : PD} : ∀ {fs : List Str} {xs : List V} {ds : List PD}, RpAll H xs ds → (fs.zip ds).lookup f = some d → ∃ v, (fs.zip xs).lookup f = some v ∧ Rp H v d
  | [], _, _, _, h => by cases h
  | _ :: _, [], _, .nil, h => by cases h
  | g :: fs, _, _, .cons r ra, h => by
    simp only [List.zip_cons_cons, List.lookup] at h ⊢
    split at h
    · cases h; exact ⟨_, rfl, r⟩
    · exact zip_rp ra h
theorem se_xat {f : Str} {te : TE} {x : XE} (hF : ∀ n C, kk.cl n = some C → f ∈ exFld n → XfC K C ∧ PySem.W.findIn K (.ref C) f = some none) (hx : SE te x) : SE (tXat K f te) (xUn (xatD f) x) := fun ρ d e S σ H al en Q q => by
  obtain ⟨d0, h1, e⟩ := bind_some e
  obtain ⟨⟨n, es⟩, h2, e⟩ := bind_some e
  refine hx ρ _ h1 S σ H al en _ fun v H1 e1 rv => ?_
  obtain ⟨a, C, od, xs, rfl, k1, k2, k3, k4⟩ := rp_held rv h2
  obtain ⟨z, l1, rz⟩ := zip_rp k4 e
  have hm : f ∈ exFld n := by
    have := List.lookup_eq_some_iff.mp e
    obtain ⟨l1, l2, e2, _⟩ := this
    have : (f, d) ∈ (exFld n).zip es := by rw [e2]; simp
    exact (List.of_mem_zip this).1
  cases hf : exFld n with
  | nil => rw [hf] at hm; cases hm
  | cons g gs =>
    rw [hf] at k3 l1
    obtain ⟨dd, rfl, g2, _⟩ := k3
    obtain ⟨t1, t2⟩ := hF n C k1 hm
    exact ⟨a, C, dd, _, z, rfl, hid_le _ _ k2, t1, t2, hid_le _ _ g2, l1, q z H1 e1 rz⟩
end Uv

namespace Uv
open PySem PySem.Spec PyProof.Rows L2
open Evl (Ex)
section
variable {X : Cx} {pins : List (Addr × Obj)} {σ : L2.St} {H : Hp} {s sI : Shared} {a : Addr} {B : Heap} {cls : Value} {d : Option Addr}
structure AirX (X : Cx) (pins : List (Addr × Obj)) (σ : L2.St) (H : Hp) (a : Addr) (B : Heap) (sI : Shared) (cls : Value) (d : Option Addr) (s : Shared) : Prop where
  inv : Inv X pins σ H sI
  nb : ∀ b o, sI.heap.get? b = some o → b ∉ frs X.stack → B.get? b = some o
  up : sI.heap.UpToSlots s.heap
  fl : HandSPX.FlyingZ B X.stack a (Zc cls d) s.heap
  na : H a = none
  os : s.os = sI.os
  ag : AllBare s.gens
end
section
variable {X : Cx}
end
abbrev WH := Ends → Addr → Value → Option Addr → L2.St → Hp → Prop
section
variable {X : Cx} {e : Expr} {cm : Value → Option Bool} {n : Str} {i : Nat} {b₀ : Stmt} {suite body : List Stmt} {hds : List ExceptHandler} {h₀ : ExceptHandler} {ts : TS} {tr tw : WH} {W : WX} {tb : WX → TS} {pos pos' : Pos}
end
end Uv

namespace Uv
open PySem PySem.Spec PyProof.Rows L2
open Evl (Ex)
variable [kk : KK]
end Uv

namespace Uv
open PySem PySem.Spec PyProof.Rows L2
open Evl (Ex)
variable [kk : KK]
end Uv

namespace Uv
open PySem PySem.Spec PyProof.Rows L2
open Evl (Ex)
variable [kk : KK]
section
variable {W : WX} {js : List Nat} {g : List Sl → List PD → Option (PD × List Sl)} {ts : TA} {as : XWA} {te : TE}
end
end Uv

namespace Uv
open PySem PySem.Spec PyProof.Rows L2
open Evl (Ex)
section
variable {X : Cx} {j k : Nat} {C : Addr} {x : Str} {sp : Sp} {W : WX} {e : Expr} {es : List Expr} {t : TA} {p pos : Pos}
end
variable [kk : KK]
end Uv

namespace Uv
open PySem PySem.Spec PyProof.Rows L2
open Evl (Ex)
variable [kk : KK]
end Uv

namespace Uv
open PySem PySem.Spec PyProof.Rows L2
open Evl (Ex)
variable [kk : KK]
section
variable {W : WX} {i : Nat} {acts : Nat → List PD → Option PD} {ts : TA} {as : XA} {ta tz : TE} {x z : XE}
end
end Uv

namespace Uv
open PySem PySem.Spec PyProof.Rows L2
open Evl (Ex)
section
variable {P : Program} {w : World} {K : PySem.W.Frag} {mg : Str → Option Value} {base : Heap}
end
variable [kk : KK]
section
variable {X : Cx} {j k : Nat} {x kw : Str} {sp : Sp} {p pos kpos : Pos} {e ke : Expr} {es : List Expr} {t : TA} {te : TE} {W : WX}
end
end Uv

namespace Uv
open PySem PySem.Spec PyProof.Rows L2
open Evl (Ex)
def AllL (P : Nat → Addr → Prop) : List (Nat × Addr) → Prop
  | [] => True
  | p :: r => P p.1 p.2 ∧ AllL P r
theorem AllL.at {P : Nat → Addr → Prop} : ∀ {l : List (Nat × Addr)}, AllL P l → ∀ n C, l.lookup n = some C → P n C
  | [], _, _, _, h => nomatch h
  | (k, a) :: r, h, n, C, e => by
    rw [List.lookup] at e
    split at e
    · rename_i z
      cases e
      rw [show n = k from by simpa using z]
      exact h.1
    · exact h.2.at n C e
theorem walk_vK {l : PySem.W.OpenLaw} {n k : Nat} {q : Program} {loose : List Str} {XP : (Str → Option Value) → Heap → Prop} {YP : World → Heap → Prop} {d : DefRec} {K : Params → PySem.W.Frag} {f : List PD → Option PD} {x : Str}
    (hn : l.most = some n) (hn2 : n ≤ sizeLine) (hdf : d.params.defaults = []) (hr : Room k callerA) (hY : ∀ (w : World) (h : Heap), YP w h → (K w.params).In h)
    (F : ∀ (w : World) (mg : Str → Option Value) (fa : Addr) (h : Heap), (K w.params).In h → h.Ns mainGlobals mg → mg d.name = some (.ref fa) →
      ∃ (kk : KK) (fd : FuncData), kk.fr = K w.params ∧ (∀ (s : Shared) (u : Value), BindsTo s fd ⟨[u], []⟩ [(x, u)]) ∧ ∀ base : Heap, (K w.params).In base → base.Ns mainGlobals mg → FnG l.prog w (K w.params) mg base k fa fd [x] (@spF kk f))
    (hf : ∀ ns : List Int, ns.length ≤ n → f [scrD (ns.map PyData.int)] = some (.bool true)) :
    PySem.W.WalkO q loose XP YP l.row.toRowW d [] (fun f vs => PySem.call f vs) := by
  refine Att.attach_call hn hdf fun w s₀ s₁ mg mb fa o pm cd doc a vs ns G Y ho hd hcd hmg hobj hints hlen hg => ?_
  obtain ⟨kk, fd, hkk, hb, hF⟩ := F w mg fa _ (hY w _ Y) G.T.g hmg
  refine top_call (hY w _ Y) G.T.g G.T.b G.T.builtins G.T.nolimit hg hobj hints (Nat.le_trans hlen hn2) hr hF hb fun H hS => ?_
  have eh : hid (fun _ => False) H = H := funext fun x => hid_out fun z => z
  refine ⟨fun _ => False, [scrD (ns.map PyData.int)], .bool true, fun x z => z.elim, .cons (.scr (xs := ns.map V.int) (by rw [eh]; show SqL kk.fr H a _; rw [hkk]; exact hS) (RpAll.ofInts ns)) .nil, hf ns hlen, fun v H2 _ rv => ?_⟩
  cases rv
  rfl
variable [kk : KK]
end Uv
namespace Uv
open PySem PySem.Spec PyProof.Rows L2
end Uv
namespace Uv
open L2
end Uv

namespace Uv
open PySem PySem.Spec PyProof.Rows L2
open Evl (Ex)
theorem itb {f q : Option Bool} {v : Bool} (hf : f = some v) (h : q = some v) : ∀ b, f = some b → q = some b := fun b e => by rw [hf] at e; cases e; exact h
theorem kit_yes {K : PySem.W.Frag} {c C : Addr} (hd : PySem.W.hasDictIn K C = true) (ht : PySem.W.typeIn K (.ref C) = some (.type "type")) (h : PySem.W.subIn K (.ref c) (.ref C) = some true) : PySem.W.kitOne K (.ref c) (.ref C) = some true := kit_ref hd ht h fun _ => rfl
theorem kit_no {K : PySem.W.Frag} {c C : Addr} (hd : PySem.W.hasDictIn K C = true) (ht : PySem.W.typeIn K (.ref C) = some (.type "type")) (h : PySem.W.subIn K (.ref c) (.ref C) = some false) (hs : PySem.W.subIn K (.ref c) (.ref c) = some true) : PySem.W.kitOne K (.ref c) (.ref C) = some false :=
  kit_ref hd ht h fun z => by cases z; rw [hs] at h; cases h
def AllN (P : Nat → Prop) : List Nat → Prop
  | [] => True
  | n :: r => P n ∧ AllN P r
theorem AllN.at {P : Nat → Prop} : ∀ {l : List Nat}, AllN P l → ∀ n, n ∈ l → P n
  | [], _, n, h => nomatch h
  | m :: r, h, n, hn => (List.mem_cons.mp hn).elim (fun e => e ▸ h.1) fun z => h.2.at n z
theorem no_fld {a : Str} {n : Nat} {p : Prop} (h : (exFld n).contains a = false) : a ∈ exFld n → p := fun z => by
  have := List.contains_iff_mem.mpr z
  rw [h] at this
  cases this
section
variable {P : Program} {w : World} {K : PySem.W.Frag} {mg : Str → Option Value} {base : Heap} {k : Nat} {x y : Str} {sp : Sp} {f : Addr}
end
section
variable {X : Cx}
end
variable [kk : KK]
end Uv

namespace Uv
open PySem PySem.Spec PyProof.Rows L2
open Evl (Ex)
section
variable {P : Program} {w : World} {K : PySem.W.Frag} {mg : Str → Option Value} {base : Heap}
end
end Uv

namespace Uv
open PySem PySem.Spec PyProof.Rows L2
open Evl (Ex)
def tXV (tm : L2.St → Hp → XK → Prop) : TE := fun σ H Q => tm σ H fun cls d H' => ∃ C, cls = .ref C ∧ ∀ a, H' a = none → Q (.ref a) (upd H' a (ExH C d a))
theorem pe_xv {X : Cx} {e : Expr} {t : L2.St → Hp → XK → Prop} (h : PMk X e t) : PE X e (tXV t) := by
  refine ⟨fun pins s σ H Q I hq => wpAny_mono (h pins s σ H _ I hq) (fun u s1 hu => ?_) fun _ _ x => x⟩
  obtain ⟨a, oe, vs, sI, H', cls, d, rfl, J, k, ne, ha, hz, hd, h1, na, os, ag, r, C, rfl, q⟩ := hu
  have J2 := J.laidN (t' := s1.toks) (h' := s1.heap) (o := ExH C d a) k ne na ⟨⟨oe, vs, ha, hz, hd⟩, ⟨oe, ha⟩, fun _ _ ⟨o, v, q, r⟩ k => ⟨o, v, k o q, r⟩⟩
  exact ⟨.ref a, upd H' a (ExH C d a), ⟨J2.ok, os.trans J2.os, ag, J2.base, J2.loc, J2.cell, J2.free, J2.freeC, J2.pin, J2.hok, J2.len⟩, rfl, q a na⟩
section
variable {X : Cx} {x : Str} {C : Addr} {fld f1 f2 : Str} {e e' : Expr} {te te' : TE} {p pos : Pos} {j : Nat}
theorem pe_xvI (i : InitOk X.prog X.w X.K X.mg X.base x C fld) (hr : Room j X.A) (hk : 2 ≤ j) (hg : Gl X x) (he : PE X e te)
    (hdb : (x == ("__debug__" : Str)) = false := by decide) (he' : starEach [e] X.env = (false, eval e X.env) :: starEach [] X.env := by rfl) (hpl : (backTo pos (starEach [] X.env)).any (·.1) = false := by rfl) : PE X (.Call (.Name x p) [e] [] pos) (tXV (tMkO C (spI C fld) [] (tCons te tNil))) := by
  obtain ⟨fI, fd, T, iC, tI, F1, hb, hm⟩ := i.ex
  exact pe_xv (pmk_oex T iC tI F1 (hr.mono hk) hb .nil (fun pins σ H s e s' I c => passes_call takes_no (E := fun _ _ _ => False) (fun _ _ _ _ z => z.elim) pins σ H s e s' I c) hg hm (pa_cons he pa_nil (hs := he')) hdb he' hpl)
theorem pe_xvL (i : InitL X.prog X.w X.K X.mg X.base x C fld) (hr : Room j X.A) (hk : 2 ≤ j) (hg : Gl X x) (he : PE X e te)
    (hdb : (x == ("__debug__" : Str)) = false := by decide) (he' : starEach [e] X.env = (false, eval e X.env) :: starEach [] X.env := by rfl) (hpl : (backTo pos (starEach [] X.env)).any (·.1) = false := by rfl) : PE X (.Call (.Name x p) [e] [] pos) (tXV (tMkO C (spI C fld) [] (tCons te tNil))) := by
  obtain ⟨fI, fd, T, iC, tI, F1, hb, hm⟩ := i.ex
  exact pe_xv (pmk_oexL T iC tI F1 (hr.mono hk) hb (fun pins σ H s e s' I c => passes_call takes_no (E := fun _ _ _ => False) (fun _ _ _ _ z => z.elim) pins σ H s e s' I c) hg hm (pa_cons he pa_nil (hs := he')) hdb he' hpl)
def spI2 (C : Addr) (f1 f2 : Str) : Sp := fun vs H Q E => ∃ (a : Addr) (v1 v2 : V), vs = [.ref a, v1, v2] ∧ H a = some (exo a C none) ∧ ∀ dx, H dx = none → dx ≠ a → Q .non (upd (upd (upd H dx (exd dx [(f1, v1)])) a (exo a C (some dx))) dx (exd dx [(f2, v2), (f1, v1)]))
theorem fn_init2 {P : Program} {w : World} {K : PySem.W.Frag} {mg : Str → Option Value} {base : Heap} {CX : CXT} {C f : Addr} {f1 f2 name qual : Str} {params : Arguments} {body : List Stmt} {scope : Scope} {dV kV doc pm cdv ct oc : Value} {an od : Option Addr}
    {osl : Array (Option Value)} (lk : K.lookup f = some ⟨oc, od, .func (PySem.W.fnOf name qual params body scope dV kV doc pm an cdv ct), osl⟩) (hcd : PySem.W.codeIn K cdv qual = true) (S : FnScope ["self", f1, f2] ["self", f1, f2] scope)
    (T : OexC K C) (no1 : PySem.W.findIn K (.ref C) f1 = some none) (no2 : PySem.W.findIn K (.ref C) f2 = some none)
    (hb : ∀ (A : Around) (outer : List PySem.Env) (s : Shared) (H : Hp) (E : XK), PSs (cxOf CX P w K mg base ["self", f1, f2] qual scope f cdv A outer s H E) body (tSeq (tOst K f1 (tVar 0) (tVar 1)) (tOst K f2 (tVar 0) (tVar 2)))) :
    FnOk P w K mg base CX 1 f (PySem.W.fnOf name qual params body scope dV kV doc pm an cdv ct) ["self", f1, f2] (spI2 C f1 f2) := by
  refine fn_of lk hcd S (fun vs H Q E h => ?_) fun A outer s H vs Q E hr h => ⟨_, hb A outer s H E, ?_⟩
  · obtain ⟨a, v1, v2, rfl, _⟩ := h
    rfl
  · obtain ⟨a, v1, v2, rfl, ea, q⟩ := h
    exact ⟨v1, rfl, .ref a, rfl, a, C, rfl, T, no1, .inl ⟨ea, fun dx hn hne => ⟨v2, rfl, .ref a, rfl, a, C, rfl, T, no2, .inr ⟨dx, [(f1, v1)], upd_same, by rw [upd_ne hne]; exact upd_same, by show 1 ≤ 900; omega, q dx hn hne⟩⟩⟩⟩
structure InitOk2 (P : Program) (w : World) (K : PySem.W.Frag) (mg : Str → Option Value) (base : Heap) (x : Str) (C : Addr) (f1 f2 : Str) : Prop where
  ex : ∃ (fI : Addr) (fd : FuncData), OexC K C ∧ PySem.W.findIn K (.ref C) "__init__" = some (some (.ref fI)) ∧ PySem.W.typeIn K (.ref fI) = some (.type "function") ∧ FnOk P w K mg base (L2.CX P w) 1 fI fd ["self", f1, f2] (spI2 C f1 f2) ∧ Binds K fd ["self", f1, f2] [] ∧ mg x = some (.ref C)
theorem init_ok2 {P : Program} {w : World} {K : PySem.W.Frag} {mg : Str → Option Value} {base : Heap} {x qual : Str} {C f : Addr} {f1 f2 : Str} {st : Stmt} {o : Obj} {kV doc pm cdv ct oc : Value} {an od : Option Addr} {osl : Array (Option Value)}
    (hm : mg x = some (.ref C)) (lc : K.lookup C = some o) (ob : oexO C o = true) (sa : PySem.W.findIn K (.ref C) "__setattr__" = some (some (.builtin "object.__setattr__"))) (exC : PySem.W.subIn K (.ref C) (.type "BaseException") = some true) (tyC : PySem.W.typeIn K (.ref C) = some (.type "type")) (kC : PySem.W.keepIn K (.ref C) = true)
    (iC : PySem.W.findIn K (.ref C) "__init__" = some (some (.ref f))) (tI : PySem.W.typeIn K (.ref f) = some (.type "function")) (no1 : PySem.W.findIn K (.ref C) f1 = some none) (no2 : PySem.W.findIn K (.ref C) f2 = some none)
    (lk : K.lookup f = some ⟨oc, od, .func (PySem.W.fnOf "__init__" qual (defArgs st) (defBody st) (defScope st) .none kV doc pm an cdv ct), osl⟩) (hcd : PySem.W.codeIn K cdv qual = true) (S : FnScope ["self", f1, f2] ["self", f1, f2] (defScope st))
    (hbi : ∀ (kV doc pm : Value) (an : Option Addr) (cdv ct : Value) (us : List Value), us.length = 3 → bindArgs (PySem.W.fnOf "__init__" qual (defArgs st) (defBody st) (defScope st) .none kV doc pm an cdv ct) ⟨us, []⟩ = pure ((["self", f1, f2] : List Str).zip us))
    (hb : ∀ (A : Around) (outer : List PySem.Env) (s : Shared) (H : Hp) (E : XK), PSs (cxOf (L2.CX P w) P w K mg base ["self", f1, f2] qual (defScope st) f cdv A outer s H E) (defBody st) (tSeq (tOst K f1 (tVar 0) (tVar 1)) (tOst K f2 (tVar 0) (tVar 2)))) : InitOk2 P w K mg base x C f1 f2 := by
  have T : OexC K C := ⟨oex_cls lc ob, sa, exC, tyC, kC⟩
  exact ⟨f, _, T, iC, tI, fn_init2 lk hcd S T no1 no2 hb, .all (hbi kV doc pm an cdv ct), hm⟩
theorem pe_xvI2 (i : InitOk2 X.prog X.w X.K X.mg X.base x C f1 f2) (hr : Room j X.A) (hk : 2 ≤ j) (hg : Gl X x) (he : PE X e te) (hb' : PE X e' te')
    (hdb : (x == ("__debug__" : Str)) = false := by decide) (he' : starEach [e, e'] X.env = (false, eval e X.env) :: starEach [e'] X.env := by rfl) (he2 : starEach [e'] X.env = (false, eval e' X.env) :: starEach [] X.env := by rfl) (hpl : (backTo pos (starEach [e'] X.env)).any (·.1) = false := by rfl) : PE X (.Call (.Name x p) [e, e'] [] pos) (tXV (tMkO C (spI2 C f1 f2) [] (tCons te (tCons te' tNil)))) := by
  obtain ⟨fI, fd, T, iC, tI, F1, hb, hm⟩ := i.ex
  exact pe_xv (pmk_oex T iC tI F1 (hr.mono hk) hb .nil (fun pins σ H s e s' I c => passes_call takes_no (E := fun _ _ _ => False) (fun _ _ _ _ z => z.elim) pins σ H s e s' I c) hg hm (pa_cons he (pa_cons hb' pa_nil (hs := he2)) (hs := he')) hdb he' hpl)
end
variable [kk : KK]
def xMkE (n : Nat) (as : XA) : XE := fun ρ => (as ρ).bind fun ds => some (heldD n ds)
def xMkE2 (n : Nat) (x y : XE) : XE := fun ρ => (x ρ).bind fun a => (y ρ).bind fun b => some (heldD n [b, a])
section
variable {n : Nat} {C : Addr} {fld f1 f2 : Str} {te te' : TE} {x y : XE}
theorem se_xv0 (hc : kk.cl n = some C) (hf : exFld n = []) : SE (tXV (fun _ H Q => Q (.ref C) none H)) (xMkE n xNil) := fun ρ d e S σ H al en Q q => by
  cases e
  exact ⟨C, rfl, fun a ha => q _ _ (Ex.new ha) (.exo hc (by rw [hid_out (al.new ha)]; exact upd_same) (by rw [hf]; exact ⟨rfl, rfl⟩) .nil)⟩
theorem se_xv1 (hx : SE te x) (hc : kk.cl n = some C) (hf : exFld n = [fld]) : SE (tXV (tMkO C (spI C fld) [] (tCons te tNil))) (xMkE n (xCons x xNil)) := fun ρ r e S σ H al en Q q => by
  obtain ⟨ds, h0, e⟩ := bind_some e
  obtain ⟨d, h1, h0⟩ := bind_some h0
  cases h0
  cases e
  refine hx ρ _ h1 S σ H al en _ fun v H1 e1 rv => ?_
  refine ⟨by show 1 ≤ 1000; omega, fun a ha => ⟨a, v, rfl, upd_same, fun dx hd hne => ⟨rfl, dx, [(fld, v)], upd_same, ?_, ?_, C, rfl, fun b hb => ?_⟩⟩⟩
  · rw [upd_ne (Ne.symm hne.symm)]
    exact upd_same
  · rw [upd_ne hne] at hd
    exact hd
  · have hd' : H1 dx = none := by rw [upd_ne hne] at hd; exact hd
    have e2 := ex_let (u := exo a C none) (u' := exd dx [(fld, v)]) (o := exo a C (some dx)) (o' := .xd [(fld, v)]) ha hd'
    have e3 := Ex.new (o := ExH C (some dx) b) hb
    have al1 := al.ex e1
    have nb : dx ≠ b := fun z => by
      rw [← z, upd_same] at hb
      cases hb
    exact q _ _ ((e1.trans e2).trans e3) (.exo hc (by rw [hid_out ((al1.ex e2).new hb)]; exact upd_same) (by rw [hf]; exact ⟨dx, rfl, (by rw [hid_out fun z => (al1 _ z) hd', upd_ne nb]; exact upd_same), rfl⟩) (.cons (rv.ex (hid_ex (e2.trans e3))) .nil))
theorem ex_let2 {H : Hp} {a dx : Addr} {u u' : HO} {o o' o2 : HO} (ha : H a = none) (hd : H dx = none) : Ex H (upd (L2.del (upd (upd (upd (upd H a u) dx u') a o) dx o2) a) dx o') := fun b z e => by
  have b1 : b ≠ a := fun e1 => by rw [e1, ha] at e; cases e
  have b2 : b ≠ dx := fun e1 => by rw [e1, hd] at e; cases e
  rw [upd_ne b2, del_ne b1, upd_ne b2, upd_ne b1, upd_ne b2, upd_ne b1]
  exact e
theorem se_xv2 (hx : SE te x) (hy : SE te' y) (hc : kk.cl n = some C) (hf : exFld n = [f2, f1]) : SE (tXV (tMkO C (spI2 C f1 f2) [] (tCons te (tCons te' tNil)))) (xMkE2 n x y) := fun ρ r e S σ H al en Q q => by
  obtain ⟨d, h1, e⟩ := bind_some e
  obtain ⟨d', h2, e⟩ := bind_some e
  cases e
  refine hx ρ _ h1 S σ H al en _ fun v H1 e1 rv => ?_
  refine hy ρ _ h2 S σ H1 (al.ex e1) (en.ex (hid_ex e1)) _ fun v' H1' e1' rv' => ?_
  refine ⟨by show 2 ≤ 1000; omega, fun a ha => ⟨a, v, v', rfl, upd_same, fun dx hd hne => ⟨rfl, dx, [(f2, v'), (f1, v)], ?_, upd_same, ?_, C, rfl, fun b hb => ?_⟩⟩⟩
  · rw [upd_ne hne.symm]
    exact upd_same
  · rw [upd_ne hne] at hd
    exact hd
  · have hd' : H1' dx = none := by rw [upd_ne hne] at hd; exact hd
    have e2 := ex_let2 (u := exo a C none) (u' := exd dx [(f1, v)]) (o := exo a C (some dx)) (o2 := exd dx [(f2, v'), (f1, v)]) (o' := .xd [(f2, v'), (f1, v)]) ha hd'
    have e3 := Ex.new (o := ExH C (some dx) b) hb
    have al1 := (al.ex e1).ex e1'
    have nb : dx ≠ b := fun z => by
      rw [← z, upd_same] at hb
      cases hb
    exact q _ _ (((e1.trans e1').trans e2).trans e3) (.exo hc (by rw [hid_out ((al1.ex e2).new hb)]; exact upd_same) (by rw [hf]; exact ⟨dx, rfl, (by rw [hid_out fun z => (al1 _ z) hd', upd_ne nb]; exact upd_same), rfl⟩) (.cons (rv'.ex (hid_ex (e2.trans e3))) (.cons (rv.ex (hid_ex ((e1'.trans e2).trans e3))) .nil)))
end
end Uv

namespace Uv
open PySem PySem.Spec PyProof.Rows L2
def Tag {α : Type} (x : α) : Type := Unit
def tag {α : Type} (x : α) : Tag x := ()
def wp {α : Type} (o : Option α) {Q : α → Prop} (_ : Tag Q) : Prop := ∃ a, o = some a ∧ Q a
@[simp] theorem wp_some {α : Type} {a : α} {Q : α → Prop} : wp (some a) (tag Q) = Q a := propext ⟨fun ⟨b, e, q⟩ => by cases e; exact q, fun q => ⟨a, rfl, q⟩⟩
@[simp] theorem wp_none {α : Type} {Q : α → Prop} : wp none (tag Q) = False := propext ⟨fun ⟨b, e, q⟩ => (nomatch e), fun q => q.elim⟩
@[simp] theorem wp_bind {α β : Type} {o : Option α} {f : α → Option β} {Q : β → Prop} : wp (o.bind f) (tag Q) = wp o (tag fun a => wp (f a) (tag Q)) := propext (by
  cases o with
  | none => simp
  | some a => simp)
theorem wp_mono {α : Type} {o : Option α} {Q R : α → Prop} (h : wp o (tag Q)) (hq : ∀ a, Q a → R a) : wp o (tag R) := let ⟨a, e, q⟩ := h; ⟨a, e, hq a q⟩
theorem wp_eq {α : Type} {o : Option α} {a : α} : wp o (tag fun x => x = a) ↔ o = some a := ⟨fun ⟨b, e, q⟩ => by rw [e, q], fun e => ⟨a, e, rfl⟩⟩
def alt {α : Type} (b : Bool) {x y : Option α} (_ : Tag x) (_ : Tag y) : Option α := if b = true then x else y
@[simp] theorem alt_t {α : Type} {x y : Option α} : alt true (tag x) (tag y) = x := (rfl)
@[simp] theorem alt_f {α : Type} {x y : Option α} : alt false (tag x) (tag y) = y := (rfl)
theorem wp_alt {α : Type} {b : Bool} {x y : Option α} {Q : α → Prop} (h1 : b = true → wp x (tag Q)) (h2 : b = false → wp y (tag Q)) : wp (alt b (tag x) (tag y)) (tag Q) := by cases b; exact h2 rfl; exact h1 rfl
theorem wp_altd {α : Type} {c : Prop} [Decidable c] {x y : Option α} {Q : α → Prop} (h1 : c → wp x (tag Q)) (h2 : ¬ c → wp y (tag Q)) : wp (alt (decide c) (tag x) (tag y)) (tag Q) := wp_alt (fun h => h1 (of_decide_eq_true h)) (fun h => h2 (of_decide_eq_false h))
def orO (b : Bool) (x : Option Bool) : Option Bool := if b = true then some true else x
def andV (b : Bool) (x : Option PD) : Option PD := if b = true then x else some (.bool false)
@[simp] theorem orO_s {b c : Bool} : orO b (some c) = some (b || c) := by cases b <;> rfl
@[simp] theorem andV_s {b c : Bool} : andV b (some (.bool c)) = some (.bool (b && c)) := by cases b <;> rfl
@[simp] theorem orO_t {x : Option Bool} : orO true x = some true := (rfl)
@[simp] theorem orO_f {x : Option Bool} : orO false x = x := (rfl)
@[simp] theorem andV_t {x : Option PD} : andV true x = x := (rfl)
@[simp] theorem andV_f {x : Option PD} : andV false x = some (.bool false) := (rfl)
noncomputable def grd {α : Type} (c : Prop) (x : Option α) : Option α := open Classical in if c then x else none
theorem grd_ite {α : Type} {c : Prop} [Decidable c] {x : Option α} : (if c then x else none) = grd c x := by
  unfold grd
  by_cases h : c
  · rw [if_pos h, if_pos h]
  · rw [if_neg h, if_neg h]
theorem grd_pos {α : Type} {c : Prop} {x : Option α} (h : c) : grd c x = x := if_pos h
theorem grd_iff {α : Type} {c c' : Prop} {x : Option α} (h : c ↔ c') : grd c x = grd c' x := by rw [propext h]
@[simp] theorem grd_true {α : Type} {x : Option α} : grd True x = x := grd_pos trivial
@[simp] theorem wp_grd {α : Type} {c : Prop} {x : Option α} {Q : α → Prop} : wp (grd c x) (tag Q) = (c ∧ wp x (tag Q)) := by
  by_cases h : c
  · rw [grd_pos h]; simp [h]
  · unfold grd; rw [if_neg h]; simp [h]
@[simp] theorem bind_some' {α β : Type} {x : α} {f : α → Option β} : (some x).bind f = f x := (rfl)
def seqK (y : XS) : Out → Option Out
  | .nxt ρ => y ρ
  | o => some o
@[simp] theorem q_sSeq {x y : XS} {ρ : Env} : sSeq x y ρ = (x ρ).bind (seqK y) := by
  unfold sSeq
  congr 1
@[simp] theorem seqK_nxt {y : XS} {ρ : Env} : seqK y (.nxt ρ) = y ρ := (rfl)
@[simp] theorem seqK_ret {y : XS} {d : PD} {ρ : Env} : seqK y (.ret d ρ) = some (.ret d ρ) := (rfl)
@[simp] theorem seqK_retO {y : XS} {d : List Cel} {ρ : Env} : seqK y (.retO d ρ) = some (.retO d ρ) := (rfl)
@[simp] theorem seqK_brk {y : XS} {ρ : Env} : seqK y (.brk ρ) = some (.brk ρ) := (rfl)
@[simp] theorem seqK_cnt {y : XS} {ρ : Env} : seqK y (.cnt ρ) = some (.cnt ρ) := (rfl)

structure In62 (j : Int) : Prop where
  lo : -(2 ^ 62) ≤ j
  hi : j < 2 ^ 62
structure In63 (j : Int) : Prop where
  lo : -(2 ^ 63) < j
  hi : j < 2 ^ 63
structure In63e (j : Int) : Prop where
  lo : -(2 ^ 63) ≤ j
  hi : j < 2 ^ 63
structure In64 (j : Int) : Prop where
  lo : -(2 ^ 64) < j
  hi : j < 2 ^ 64
structure Dvr (j : Int) : Prop where
  lo : 0 < j
  hi : j < 2 ^ 64
@[simp] theorem in62_l0 : In62 0 = True := eq_true ⟨by decide, by decide⟩
@[simp] theorem in63_l0 : In63 0 = True := eq_true ⟨by decide, by decide⟩
@[simp] theorem in63e_l0 : In63e 0 = True := eq_true ⟨by decide, by decide⟩
@[simp] theorem in64_l0 : In64 0 = True := eq_true ⟨by decide, by decide⟩
@[simp] theorem in62_l1 : In62 1 = True := eq_true ⟨by decide, by decide⟩
@[simp] theorem in63_l1 : In63 1 = True := eq_true ⟨by decide, by decide⟩
@[simp] theorem in63e_l1 : In63e 1 = True := eq_true ⟨by decide, by decide⟩
@[simp] theorem in64_l1 : In64 1 = True := eq_true ⟨by decide, by decide⟩
@[simp] theorem dvr_l1 : Dvr 1 = True := eq_true ⟨by decide, by decide⟩
@[simp] theorem in62_l2 : In62 2 = True := eq_true ⟨by decide, by decide⟩
@[simp] theorem in63_l2 : In63 2 = True := eq_true ⟨by decide, by decide⟩
@[simp] theorem in63e_l2 : In63e 2 = True := eq_true ⟨by decide, by decide⟩
@[simp] theorem in64_l2 : In64 2 = True := eq_true ⟨by decide, by decide⟩
@[simp] theorem dvr_l2 : Dvr 2 = True := eq_true ⟨by decide, by decide⟩
@[simp] theorem in62_l3 : In62 3 = True := eq_true ⟨by decide, by decide⟩
@[simp] theorem in63_l3 : In63 3 = True := eq_true ⟨by decide, by decide⟩
@[simp] theorem in63e_l3 : In63e 3 = True := eq_true ⟨by decide, by decide⟩
@[simp] theorem in64_l3 : In64 3 = True := eq_true ⟨by decide, by decide⟩
@[simp] theorem dvr_l3 : Dvr 3 = True := eq_true ⟨by decide, by decide⟩
@[simp] theorem in62_l4 : In62 4 = True := eq_true ⟨by decide, by decide⟩
@[simp] theorem in63_l4 : In63 4 = True := eq_true ⟨by decide, by decide⟩
@[simp] theorem in63e_l4 : In63e 4 = True := eq_true ⟨by decide, by decide⟩
@[simp] theorem in64_l4 : In64 4 = True := eq_true ⟨by decide, by decide⟩
@[simp] theorem dvr_l4 : Dvr 4 = True := eq_true ⟨by decide, by decide⟩
@[simp] theorem in62_l5 : In62 5 = True := eq_true ⟨by decide, by decide⟩
@[simp] theorem in63_l5 : In63 5 = True := eq_true ⟨by decide, by decide⟩
@[simp] theorem in63e_l5 : In63e 5 = True := eq_true ⟨by decide, by decide⟩
@[simp] theorem in64_l5 : In64 5 = True := eq_true ⟨by decide, by decide⟩
@[simp] theorem dvr_l5 : Dvr 5 = True := eq_true ⟨by decide, by decide⟩
@[simp] theorem in62_l6 : In62 6 = True := eq_true ⟨by decide, by decide⟩
@[simp] theorem in63_l6 : In63 6 = True := eq_true ⟨by decide, by decide⟩
@[simp] theorem in63e_l6 : In63e 6 = True := eq_true ⟨by decide, by decide⟩
@[simp] theorem in64_l6 : In64 6 = True := eq_true ⟨by decide, by decide⟩
@[simp] theorem dvr_l6 : Dvr 6 = True := eq_true ⟨by decide, by decide⟩
@[simp] theorem in62_l7 : In62 7 = True := eq_true ⟨by decide, by decide⟩
@[simp] theorem in63_l7 : In63 7 = True := eq_true ⟨by decide, by decide⟩
@[simp] theorem in63e_l7 : In63e 7 = True := eq_true ⟨by decide, by decide⟩
@[simp] theorem in64_l7 : In64 7 = True := eq_true ⟨by decide, by decide⟩
@[simp] theorem dvr_l7 : Dvr 7 = True := eq_true ⟨by decide, by decide⟩
@[simp] theorem in62_l8 : In62 8 = True := eq_true ⟨by decide, by decide⟩
@[simp] theorem in63_l8 : In63 8 = True := eq_true ⟨by decide, by decide⟩
@[simp] theorem in63e_l8 : In63e 8 = True := eq_true ⟨by decide, by decide⟩
@[simp] theorem in64_l8 : In64 8 = True := eq_true ⟨by decide, by decide⟩
@[simp] theorem dvr_l8 : Dvr 8 = True := eq_true ⟨by decide, by decide⟩
@[simp] theorem in62_l9 : In62 9 = True := eq_true ⟨by decide, by decide⟩
@[simp] theorem in63_l9 : In63 9 = True := eq_true ⟨by decide, by decide⟩
@[simp] theorem in63e_l9 : In63e 9 = True := eq_true ⟨by decide, by decide⟩
@[simp] theorem in64_l9 : In64 9 = True := eq_true ⟨by decide, by decide⟩
@[simp] theorem dvr_l9 : Dvr 9 = True := eq_true ⟨by decide, by decide⟩
@[simp] theorem in62_l10 : In62 10 = True := eq_true ⟨by decide, by decide⟩
@[simp] theorem in63_l10 : In63 10 = True := eq_true ⟨by decide, by decide⟩
@[simp] theorem in63e_l10 : In63e 10 = True := eq_true ⟨by decide, by decide⟩
@[simp] theorem in64_l10 : In64 10 = True := eq_true ⟨by decide, by decide⟩
@[simp] theorem dvr_l10 : Dvr 10 = True := eq_true ⟨by decide, by decide⟩
@[simp] theorem in62_l11 : In62 11 = True := eq_true ⟨by decide, by decide⟩
@[simp] theorem in63_l11 : In63 11 = True := eq_true ⟨by decide, by decide⟩
@[simp] theorem in63e_l11 : In63e 11 = True := eq_true ⟨by decide, by decide⟩
@[simp] theorem in64_l11 : In64 11 = True := eq_true ⟨by decide, by decide⟩
@[simp] theorem dvr_l11 : Dvr 11 = True := eq_true ⟨by decide, by decide⟩
@[simp] theorem in62_l12 : In62 12 = True := eq_true ⟨by decide, by decide⟩
@[simp] theorem in63_l12 : In63 12 = True := eq_true ⟨by decide, by decide⟩
@[simp] theorem in63e_l12 : In63e 12 = True := eq_true ⟨by decide, by decide⟩
@[simp] theorem in64_l12 : In64 12 = True := eq_true ⟨by decide, by decide⟩
@[simp] theorem dvr_l12 : Dvr 12 = True := eq_true ⟨by decide, by decide⟩
@[simp] theorem in62_l13 : In62 13 = True := eq_true ⟨by decide, by decide⟩
@[simp] theorem in63_l13 : In63 13 = True := eq_true ⟨by decide, by decide⟩
@[simp] theorem in63e_l13 : In63e 13 = True := eq_true ⟨by decide, by decide⟩
@[simp] theorem in64_l13 : In64 13 = True := eq_true ⟨by decide, by decide⟩
@[simp] theorem dvr_l13 : Dvr 13 = True := eq_true ⟨by decide, by decide⟩
@[simp] theorem in62_l14 : In62 14 = True := eq_true ⟨by decide, by decide⟩
@[simp] theorem in63_l14 : In63 14 = True := eq_true ⟨by decide, by decide⟩
@[simp] theorem in63e_l14 : In63e 14 = True := eq_true ⟨by decide, by decide⟩
@[simp] theorem in64_l14 : In64 14 = True := eq_true ⟨by decide, by decide⟩
@[simp] theorem dvr_l14 : Dvr 14 = True := eq_true ⟨by decide, by decide⟩
@[simp] theorem in62_l15 : In62 15 = True := eq_true ⟨by decide, by decide⟩
@[simp] theorem in63_l15 : In63 15 = True := eq_true ⟨by decide, by decide⟩
@[simp] theorem in63e_l15 : In63e 15 = True := eq_true ⟨by decide, by decide⟩
@[simp] theorem in64_l15 : In64 15 = True := eq_true ⟨by decide, by decide⟩
@[simp] theorem dvr_l15 : Dvr 15 = True := eq_true ⟨by decide, by decide⟩
@[simp] theorem in62_l16 : In62 16 = True := eq_true ⟨by decide, by decide⟩
@[simp] theorem in63_l16 : In63 16 = True := eq_true ⟨by decide, by decide⟩
@[simp] theorem in63e_l16 : In63e 16 = True := eq_true ⟨by decide, by decide⟩
@[simp] theorem in64_l16 : In64 16 = True := eq_true ⟨by decide, by decide⟩
@[simp] theorem dvr_l16 : Dvr 16 = True := eq_true ⟨by decide, by decide⟩
@[simp] theorem in62_l17 : In62 17 = True := eq_true ⟨by decide, by decide⟩
@[simp] theorem in63_l17 : In63 17 = True := eq_true ⟨by decide, by decide⟩
@[simp] theorem in63e_l17 : In63e 17 = True := eq_true ⟨by decide, by decide⟩
@[simp] theorem in64_l17 : In64 17 = True := eq_true ⟨by decide, by decide⟩
@[simp] theorem dvr_l17 : Dvr 17 = True := eq_true ⟨by decide, by decide⟩
@[simp] theorem in62_l18 : In62 18 = True := eq_true ⟨by decide, by decide⟩
@[simp] theorem in63_l18 : In63 18 = True := eq_true ⟨by decide, by decide⟩
@[simp] theorem in63e_l18 : In63e 18 = True := eq_true ⟨by decide, by decide⟩
@[simp] theorem in64_l18 : In64 18 = True := eq_true ⟨by decide, by decide⟩
@[simp] theorem dvr_l18 : Dvr 18 = True := eq_true ⟨by decide, by decide⟩
@[simp] theorem in62_l19 : In62 19 = True := eq_true ⟨by decide, by decide⟩
@[simp] theorem in63_l19 : In63 19 = True := eq_true ⟨by decide, by decide⟩
@[simp] theorem in63e_l19 : In63e 19 = True := eq_true ⟨by decide, by decide⟩
@[simp] theorem in64_l19 : In64 19 = True := eq_true ⟨by decide, by decide⟩
@[simp] theorem dvr_l19 : Dvr 19 = True := eq_true ⟨by decide, by decide⟩
@[simp] theorem in62_l20 : In62 20 = True := eq_true ⟨by decide, by decide⟩
@[simp] theorem in63_l20 : In63 20 = True := eq_true ⟨by decide, by decide⟩
@[simp] theorem in63e_l20 : In63e 20 = True := eq_true ⟨by decide, by decide⟩
@[simp] theorem in64_l20 : In64 20 = True := eq_true ⟨by decide, by decide⟩
@[simp] theorem dvr_l20 : Dvr 20 = True := eq_true ⟨by decide, by decide⟩
@[simp] theorem in62_l21 : In62 21 = True := eq_true ⟨by decide, by decide⟩
@[simp] theorem in63_l21 : In63 21 = True := eq_true ⟨by decide, by decide⟩
@[simp] theorem in63e_l21 : In63e 21 = True := eq_true ⟨by decide, by decide⟩
@[simp] theorem in64_l21 : In64 21 = True := eq_true ⟨by decide, by decide⟩
@[simp] theorem dvr_l21 : Dvr 21 = True := eq_true ⟨by decide, by decide⟩
@[simp] theorem in62_l22 : In62 22 = True := eq_true ⟨by decide, by decide⟩
@[simp] theorem in63_l22 : In63 22 = True := eq_true ⟨by decide, by decide⟩
@[simp] theorem in63e_l22 : In63e 22 = True := eq_true ⟨by decide, by decide⟩
@[simp] theorem in64_l22 : In64 22 = True := eq_true ⟨by decide, by decide⟩
@[simp] theorem dvr_l22 : Dvr 22 = True := eq_true ⟨by decide, by decide⟩
@[simp] theorem in62_l23 : In62 23 = True := eq_true ⟨by decide, by decide⟩
@[simp] theorem in63_l23 : In63 23 = True := eq_true ⟨by decide, by decide⟩
@[simp] theorem in63e_l23 : In63e 23 = True := eq_true ⟨by decide, by decide⟩
@[simp] theorem in64_l23 : In64 23 = True := eq_true ⟨by decide, by decide⟩
@[simp] theorem dvr_l23 : Dvr 23 = True := eq_true ⟨by decide, by decide⟩
@[simp] theorem in62_l24 : In62 24 = True := eq_true ⟨by decide, by decide⟩
@[simp] theorem in63_l24 : In63 24 = True := eq_true ⟨by decide, by decide⟩
@[simp] theorem in63e_l24 : In63e 24 = True := eq_true ⟨by decide, by decide⟩
@[simp] theorem in64_l24 : In64 24 = True := eq_true ⟨by decide, by decide⟩
@[simp] theorem dvr_l24 : Dvr 24 = True := eq_true ⟨by decide, by decide⟩
@[simp] theorem in62_l25 : In62 25 = True := eq_true ⟨by decide, by decide⟩
@[simp] theorem in63_l25 : In63 25 = True := eq_true ⟨by decide, by decide⟩
@[simp] theorem in63e_l25 : In63e 25 = True := eq_true ⟨by decide, by decide⟩
@[simp] theorem in64_l25 : In64 25 = True := eq_true ⟨by decide, by decide⟩
@[simp] theorem dvr_l25 : Dvr 25 = True := eq_true ⟨by decide, by decide⟩
@[simp] theorem in62_l26 : In62 26 = True := eq_true ⟨by decide, by decide⟩
@[simp] theorem in63_l26 : In63 26 = True := eq_true ⟨by decide, by decide⟩
@[simp] theorem in63e_l26 : In63e 26 = True := eq_true ⟨by decide, by decide⟩
@[simp] theorem in64_l26 : In64 26 = True := eq_true ⟨by decide, by decide⟩
@[simp] theorem dvr_l26 : Dvr 26 = True := eq_true ⟨by decide, by decide⟩
@[simp] theorem in62_l27 : In62 27 = True := eq_true ⟨by decide, by decide⟩
@[simp] theorem in63_l27 : In63 27 = True := eq_true ⟨by decide, by decide⟩
@[simp] theorem in63e_l27 : In63e 27 = True := eq_true ⟨by decide, by decide⟩
@[simp] theorem in64_l27 : In64 27 = True := eq_true ⟨by decide, by decide⟩
@[simp] theorem dvr_l27 : Dvr 27 = True := eq_true ⟨by decide, by decide⟩
@[simp] theorem in62_l28 : In62 28 = True := eq_true ⟨by decide, by decide⟩
@[simp] theorem in63_l28 : In63 28 = True := eq_true ⟨by decide, by decide⟩
@[simp] theorem in63e_l28 : In63e 28 = True := eq_true ⟨by decide, by decide⟩
@[simp] theorem in64_l28 : In64 28 = True := eq_true ⟨by decide, by decide⟩
@[simp] theorem dvr_l28 : Dvr 28 = True := eq_true ⟨by decide, by decide⟩
@[simp] theorem in62_l29 : In62 29 = True := eq_true ⟨by decide, by decide⟩
@[simp] theorem in63_l29 : In63 29 = True := eq_true ⟨by decide, by decide⟩
@[simp] theorem in63e_l29 : In63e 29 = True := eq_true ⟨by decide, by decide⟩
@[simp] theorem in64_l29 : In64 29 = True := eq_true ⟨by decide, by decide⟩
@[simp] theorem dvr_l29 : Dvr 29 = True := eq_true ⟨by decide, by decide⟩
@[simp] theorem in62_l30 : In62 30 = True := eq_true ⟨by decide, by decide⟩
@[simp] theorem in63_l30 : In63 30 = True := eq_true ⟨by decide, by decide⟩
@[simp] theorem in63e_l30 : In63e 30 = True := eq_true ⟨by decide, by decide⟩
@[simp] theorem in64_l30 : In64 30 = True := eq_true ⟨by decide, by decide⟩
@[simp] theorem dvr_l30 : Dvr 30 = True := eq_true ⟨by decide, by decide⟩
@[simp] theorem in62_l31 : In62 31 = True := eq_true ⟨by decide, by decide⟩
@[simp] theorem in63_l31 : In63 31 = True := eq_true ⟨by decide, by decide⟩
@[simp] theorem in63e_l31 : In63e 31 = True := eq_true ⟨by decide, by decide⟩
@[simp] theorem in64_l31 : In64 31 = True := eq_true ⟨by decide, by decide⟩
@[simp] theorem dvr_l31 : Dvr 31 = True := eq_true ⟨by decide, by decide⟩
@[simp] theorem in62_l32 : In62 32 = True := eq_true ⟨by decide, by decide⟩
@[simp] theorem in63_l32 : In63 32 = True := eq_true ⟨by decide, by decide⟩
@[simp] theorem in63e_l32 : In63e 32 = True := eq_true ⟨by decide, by decide⟩
@[simp] theorem in64_l32 : In64 32 = True := eq_true ⟨by decide, by decide⟩
@[simp] theorem dvr_l32 : Dvr 32 = True := eq_true ⟨by decide, by decide⟩
@[simp] theorem in62_l33 : In62 33 = True := eq_true ⟨by decide, by decide⟩
@[simp] theorem in63_l33 : In63 33 = True := eq_true ⟨by decide, by decide⟩
@[simp] theorem in63e_l33 : In63e 33 = True := eq_true ⟨by decide, by decide⟩
@[simp] theorem in64_l33 : In64 33 = True := eq_true ⟨by decide, by decide⟩
@[simp] theorem dvr_l33 : Dvr 33 = True := eq_true ⟨by decide, by decide⟩
@[simp] theorem in62_l34 : In62 34 = True := eq_true ⟨by decide, by decide⟩
@[simp] theorem in63_l34 : In63 34 = True := eq_true ⟨by decide, by decide⟩
@[simp] theorem in63e_l34 : In63e 34 = True := eq_true ⟨by decide, by decide⟩
@[simp] theorem in64_l34 : In64 34 = True := eq_true ⟨by decide, by decide⟩
@[simp] theorem dvr_l34 : Dvr 34 = True := eq_true ⟨by decide, by decide⟩
@[simp] theorem in62_l35 : In62 35 = True := eq_true ⟨by decide, by decide⟩
@[simp] theorem in63_l35 : In63 35 = True := eq_true ⟨by decide, by decide⟩
@[simp] theorem in63e_l35 : In63e 35 = True := eq_true ⟨by decide, by decide⟩
@[simp] theorem in64_l35 : In64 35 = True := eq_true ⟨by decide, by decide⟩
@[simp] theorem dvr_l35 : Dvr 35 = True := eq_true ⟨by decide, by decide⟩
@[simp] theorem in62_l36 : In62 36 = True := eq_true ⟨by decide, by decide⟩
@[simp] theorem in63_l36 : In63 36 = True := eq_true ⟨by decide, by decide⟩
@[simp] theorem in63e_l36 : In63e 36 = True := eq_true ⟨by decide, by decide⟩
@[simp] theorem in64_l36 : In64 36 = True := eq_true ⟨by decide, by decide⟩
@[simp] theorem dvr_l36 : Dvr 36 = True := eq_true ⟨by decide, by decide⟩
@[simp] theorem in62_l37 : In62 37 = True := eq_true ⟨by decide, by decide⟩
@[simp] theorem in63_l37 : In63 37 = True := eq_true ⟨by decide, by decide⟩
@[simp] theorem in63e_l37 : In63e 37 = True := eq_true ⟨by decide, by decide⟩
@[simp] theorem in64_l37 : In64 37 = True := eq_true ⟨by decide, by decide⟩
@[simp] theorem dvr_l37 : Dvr 37 = True := eq_true ⟨by decide, by decide⟩
@[simp] theorem in62_l38 : In62 38 = True := eq_true ⟨by decide, by decide⟩
@[simp] theorem in63_l38 : In63 38 = True := eq_true ⟨by decide, by decide⟩
@[simp] theorem in63e_l38 : In63e 38 = True := eq_true ⟨by decide, by decide⟩
@[simp] theorem in64_l38 : In64 38 = True := eq_true ⟨by decide, by decide⟩
@[simp] theorem dvr_l38 : Dvr 38 = True := eq_true ⟨by decide, by decide⟩
@[simp] theorem in62_l39 : In62 39 = True := eq_true ⟨by decide, by decide⟩
@[simp] theorem in63_l39 : In63 39 = True := eq_true ⟨by decide, by decide⟩
@[simp] theorem in63e_l39 : In63e 39 = True := eq_true ⟨by decide, by decide⟩
@[simp] theorem in64_l39 : In64 39 = True := eq_true ⟨by decide, by decide⟩
@[simp] theorem dvr_l39 : Dvr 39 = True := eq_true ⟨by decide, by decide⟩
@[simp] theorem in62_l40 : In62 40 = True := eq_true ⟨by decide, by decide⟩
@[simp] theorem in63_l40 : In63 40 = True := eq_true ⟨by decide, by decide⟩
@[simp] theorem in63e_l40 : In63e 40 = True := eq_true ⟨by decide, by decide⟩
@[simp] theorem in64_l40 : In64 40 = True := eq_true ⟨by decide, by decide⟩
@[simp] theorem dvr_l40 : Dvr 40 = True := eq_true ⟨by decide, by decide⟩
@[simp] theorem in62_l41 : In62 41 = True := eq_true ⟨by decide, by decide⟩
@[simp] theorem in63_l41 : In63 41 = True := eq_true ⟨by decide, by decide⟩
@[simp] theorem in63e_l41 : In63e 41 = True := eq_true ⟨by decide, by decide⟩
@[simp] theorem in64_l41 : In64 41 = True := eq_true ⟨by decide, by decide⟩
@[simp] theorem dvr_l41 : Dvr 41 = True := eq_true ⟨by decide, by decide⟩
@[simp] theorem in62_l42 : In62 42 = True := eq_true ⟨by decide, by decide⟩
@[simp] theorem in63_l42 : In63 42 = True := eq_true ⟨by decide, by decide⟩
@[simp] theorem in63e_l42 : In63e 42 = True := eq_true ⟨by decide, by decide⟩
@[simp] theorem in64_l42 : In64 42 = True := eq_true ⟨by decide, by decide⟩
@[simp] theorem dvr_l42 : Dvr 42 = True := eq_true ⟨by decide, by decide⟩
@[simp] theorem in62_l43 : In62 43 = True := eq_true ⟨by decide, by decide⟩
@[simp] theorem in63_l43 : In63 43 = True := eq_true ⟨by decide, by decide⟩
@[simp] theorem in63e_l43 : In63e 43 = True := eq_true ⟨by decide, by decide⟩
@[simp] theorem in64_l43 : In64 43 = True := eq_true ⟨by decide, by decide⟩
@[simp] theorem dvr_l43 : Dvr 43 = True := eq_true ⟨by decide, by decide⟩
@[simp] theorem in62_l44 : In62 44 = True := eq_true ⟨by decide, by decide⟩
@[simp] theorem in63_l44 : In63 44 = True := eq_true ⟨by decide, by decide⟩
@[simp] theorem in63e_l44 : In63e 44 = True := eq_true ⟨by decide, by decide⟩
@[simp] theorem in64_l44 : In64 44 = True := eq_true ⟨by decide, by decide⟩
@[simp] theorem dvr_l44 : Dvr 44 = True := eq_true ⟨by decide, by decide⟩
@[simp] theorem in62_l45 : In62 45 = True := eq_true ⟨by decide, by decide⟩
@[simp] theorem in63_l45 : In63 45 = True := eq_true ⟨by decide, by decide⟩
@[simp] theorem in63e_l45 : In63e 45 = True := eq_true ⟨by decide, by decide⟩
@[simp] theorem in64_l45 : In64 45 = True := eq_true ⟨by decide, by decide⟩
@[simp] theorem dvr_l45 : Dvr 45 = True := eq_true ⟨by decide, by decide⟩
@[simp] theorem in62_l46 : In62 46 = True := eq_true ⟨by decide, by decide⟩
@[simp] theorem in63_l46 : In63 46 = True := eq_true ⟨by decide, by decide⟩
@[simp] theorem in63e_l46 : In63e 46 = True := eq_true ⟨by decide, by decide⟩
@[simp] theorem in64_l46 : In64 46 = True := eq_true ⟨by decide, by decide⟩
@[simp] theorem dvr_l46 : Dvr 46 = True := eq_true ⟨by decide, by decide⟩
@[simp] theorem in62_l47 : In62 47 = True := eq_true ⟨by decide, by decide⟩
@[simp] theorem in63_l47 : In63 47 = True := eq_true ⟨by decide, by decide⟩
@[simp] theorem in63e_l47 : In63e 47 = True := eq_true ⟨by decide, by decide⟩
@[simp] theorem in64_l47 : In64 47 = True := eq_true ⟨by decide, by decide⟩
@[simp] theorem dvr_l47 : Dvr 47 = True := eq_true ⟨by decide, by decide⟩
@[simp] theorem in62_l48 : In62 48 = True := eq_true ⟨by decide, by decide⟩
@[simp] theorem in63_l48 : In63 48 = True := eq_true ⟨by decide, by decide⟩
@[simp] theorem in63e_l48 : In63e 48 = True := eq_true ⟨by decide, by decide⟩
@[simp] theorem in64_l48 : In64 48 = True := eq_true ⟨by decide, by decide⟩
@[simp] theorem dvr_l48 : Dvr 48 = True := eq_true ⟨by decide, by decide⟩
@[simp] theorem in62_l49 : In62 49 = True := eq_true ⟨by decide, by decide⟩
@[simp] theorem in63_l49 : In63 49 = True := eq_true ⟨by decide, by decide⟩
@[simp] theorem in63e_l49 : In63e 49 = True := eq_true ⟨by decide, by decide⟩
@[simp] theorem in64_l49 : In64 49 = True := eq_true ⟨by decide, by decide⟩
@[simp] theorem dvr_l49 : Dvr 49 = True := eq_true ⟨by decide, by decide⟩
@[simp] theorem in62_l50 : In62 50 = True := eq_true ⟨by decide, by decide⟩
@[simp] theorem in63_l50 : In63 50 = True := eq_true ⟨by decide, by decide⟩
@[simp] theorem in63e_l50 : In63e 50 = True := eq_true ⟨by decide, by decide⟩
@[simp] theorem in64_l50 : In64 50 = True := eq_true ⟨by decide, by decide⟩
@[simp] theorem dvr_l50 : Dvr 50 = True := eq_true ⟨by decide, by decide⟩
@[simp] theorem in62_l51 : In62 51 = True := eq_true ⟨by decide, by decide⟩
@[simp] theorem in63_l51 : In63 51 = True := eq_true ⟨by decide, by decide⟩
@[simp] theorem in63e_l51 : In63e 51 = True := eq_true ⟨by decide, by decide⟩
@[simp] theorem in64_l51 : In64 51 = True := eq_true ⟨by decide, by decide⟩
@[simp] theorem dvr_l51 : Dvr 51 = True := eq_true ⟨by decide, by decide⟩
@[simp] theorem in62_l52 : In62 52 = True := eq_true ⟨by decide, by decide⟩
@[simp] theorem in63_l52 : In63 52 = True := eq_true ⟨by decide, by decide⟩
@[simp] theorem in63e_l52 : In63e 52 = True := eq_true ⟨by decide, by decide⟩
@[simp] theorem in64_l52 : In64 52 = True := eq_true ⟨by decide, by decide⟩
@[simp] theorem dvr_l52 : Dvr 52 = True := eq_true ⟨by decide, by decide⟩
@[simp] theorem in62_l53 : In62 53 = True := eq_true ⟨by decide, by decide⟩
@[simp] theorem in63_l53 : In63 53 = True := eq_true ⟨by decide, by decide⟩
@[simp] theorem in63e_l53 : In63e 53 = True := eq_true ⟨by decide, by decide⟩
@[simp] theorem in64_l53 : In64 53 = True := eq_true ⟨by decide, by decide⟩
@[simp] theorem dvr_l53 : Dvr 53 = True := eq_true ⟨by decide, by decide⟩
@[simp] theorem in62_l54 : In62 54 = True := eq_true ⟨by decide, by decide⟩
@[simp] theorem in63_l54 : In63 54 = True := eq_true ⟨by decide, by decide⟩
@[simp] theorem in63e_l54 : In63e 54 = True := eq_true ⟨by decide, by decide⟩
@[simp] theorem in64_l54 : In64 54 = True := eq_true ⟨by decide, by decide⟩
@[simp] theorem dvr_l54 : Dvr 54 = True := eq_true ⟨by decide, by decide⟩
@[simp] theorem in62_l55 : In62 55 = True := eq_true ⟨by decide, by decide⟩
@[simp] theorem in63_l55 : In63 55 = True := eq_true ⟨by decide, by decide⟩
@[simp] theorem in63e_l55 : In63e 55 = True := eq_true ⟨by decide, by decide⟩
@[simp] theorem in64_l55 : In64 55 = True := eq_true ⟨by decide, by decide⟩
@[simp] theorem dvr_l55 : Dvr 55 = True := eq_true ⟨by decide, by decide⟩
@[simp] theorem in62_l56 : In62 56 = True := eq_true ⟨by decide, by decide⟩
@[simp] theorem in63_l56 : In63 56 = True := eq_true ⟨by decide, by decide⟩
@[simp] theorem in63e_l56 : In63e 56 = True := eq_true ⟨by decide, by decide⟩
@[simp] theorem in64_l56 : In64 56 = True := eq_true ⟨by decide, by decide⟩
@[simp] theorem dvr_l56 : Dvr 56 = True := eq_true ⟨by decide, by decide⟩
@[simp] theorem in62_l57 : In62 57 = True := eq_true ⟨by decide, by decide⟩
@[simp] theorem in63_l57 : In63 57 = True := eq_true ⟨by decide, by decide⟩
@[simp] theorem in63e_l57 : In63e 57 = True := eq_true ⟨by decide, by decide⟩
@[simp] theorem in64_l57 : In64 57 = True := eq_true ⟨by decide, by decide⟩
@[simp] theorem dvr_l57 : Dvr 57 = True := eq_true ⟨by decide, by decide⟩
@[simp] theorem in62_l58 : In62 58 = True := eq_true ⟨by decide, by decide⟩
@[simp] theorem in63_l58 : In63 58 = True := eq_true ⟨by decide, by decide⟩
@[simp] theorem in63e_l58 : In63e 58 = True := eq_true ⟨by decide, by decide⟩
@[simp] theorem in64_l58 : In64 58 = True := eq_true ⟨by decide, by decide⟩
@[simp] theorem dvr_l58 : Dvr 58 = True := eq_true ⟨by decide, by decide⟩
@[simp] theorem in62_l59 : In62 59 = True := eq_true ⟨by decide, by decide⟩
@[simp] theorem in63_l59 : In63 59 = True := eq_true ⟨by decide, by decide⟩
@[simp] theorem in63e_l59 : In63e 59 = True := eq_true ⟨by decide, by decide⟩
@[simp] theorem in64_l59 : In64 59 = True := eq_true ⟨by decide, by decide⟩
@[simp] theorem dvr_l59 : Dvr 59 = True := eq_true ⟨by decide, by decide⟩
@[simp] theorem in62_l60 : In62 60 = True := eq_true ⟨by decide, by decide⟩
@[simp] theorem in63_l60 : In63 60 = True := eq_true ⟨by decide, by decide⟩
@[simp] theorem in63e_l60 : In63e 60 = True := eq_true ⟨by decide, by decide⟩
@[simp] theorem in64_l60 : In64 60 = True := eq_true ⟨by decide, by decide⟩
@[simp] theorem dvr_l60 : Dvr 60 = True := eq_true ⟨by decide, by decide⟩
@[simp] theorem in62_l61 : In62 61 = True := eq_true ⟨by decide, by decide⟩
@[simp] theorem in63_l61 : In63 61 = True := eq_true ⟨by decide, by decide⟩
@[simp] theorem in63e_l61 : In63e 61 = True := eq_true ⟨by decide, by decide⟩
@[simp] theorem in64_l61 : In64 61 = True := eq_true ⟨by decide, by decide⟩
@[simp] theorem dvr_l61 : Dvr 61 = True := eq_true ⟨by decide, by decide⟩
@[simp] theorem in62_l62 : In62 62 = True := eq_true ⟨by decide, by decide⟩
@[simp] theorem in63_l62 : In63 62 = True := eq_true ⟨by decide, by decide⟩
@[simp] theorem in63e_l62 : In63e 62 = True := eq_true ⟨by decide, by decide⟩
@[simp] theorem in64_l62 : In64 62 = True := eq_true ⟨by decide, by decide⟩
@[simp] theorem dvr_l62 : Dvr 62 = True := eq_true ⟨by decide, by decide⟩
@[simp] theorem in62_l63 : In62 63 = True := eq_true ⟨by decide, by decide⟩
@[simp] theorem in63_l63 : In63 63 = True := eq_true ⟨by decide, by decide⟩
@[simp] theorem in63e_l63 : In63e 63 = True := eq_true ⟨by decide, by decide⟩
@[simp] theorem in64_l63 : In64 63 = True := eq_true ⟨by decide, by decide⟩
@[simp] theorem dvr_l63 : Dvr 63 = True := eq_true ⟨by decide, by decide⟩
@[simp] theorem in62_l64 : In62 64 = True := eq_true ⟨by decide, by decide⟩
@[simp] theorem in63_l64 : In63 64 = True := eq_true ⟨by decide, by decide⟩
@[simp] theorem in63e_l64 : In63e 64 = True := eq_true ⟨by decide, by decide⟩
@[simp] theorem in64_l64 : In64 64 = True := eq_true ⟨by decide, by decide⟩
@[simp] theorem dvr_l64 : Dvr 64 = True := eq_true ⟨by decide, by decide⟩
@[simp] theorem in62_l70 : In62 70 = True := eq_true ⟨by decide, by decide⟩
@[simp] theorem in63_l70 : In63 70 = True := eq_true ⟨by decide, by decide⟩
@[simp] theorem in63e_l70 : In63e 70 = True := eq_true ⟨by decide, by decide⟩
@[simp] theorem in64_l70 : In64 70 = True := eq_true ⟨by decide, by decide⟩
@[simp] theorem dvr_l70 : Dvr 70 = True := eq_true ⟨by decide, by decide⟩
@[simp] theorem in62_l200 : In62 200 = True := eq_true ⟨by decide, by decide⟩
@[simp] theorem in63_l200 : In63 200 = True := eq_true ⟨by decide, by decide⟩
@[simp] theorem in63e_l200 : In63e 200 = True := eq_true ⟨by decide, by decide⟩
@[simp] theorem in64_l200 : In64 200 = True := eq_true ⟨by decide, by decide⟩
@[simp] theorem dvr_l200 : Dvr 200 = True := eq_true ⟨by decide, by decide⟩
@[simp] theorem in62_l300 : In62 300 = True := eq_true ⟨by decide, by decide⟩
@[simp] theorem in63_l300 : In63 300 = True := eq_true ⟨by decide, by decide⟩
@[simp] theorem in63e_l300 : In63e 300 = True := eq_true ⟨by decide, by decide⟩
@[simp] theorem in64_l300 : In64 300 = True := eq_true ⟨by decide, by decide⟩
@[simp] theorem dvr_l300 : Dvr 300 = True := eq_true ⟨by decide, by decide⟩
@[simp] theorem in62_l400 : In62 400 = True := eq_true ⟨by decide, by decide⟩
@[simp] theorem in63_l400 : In63 400 = True := eq_true ⟨by decide, by decide⟩
@[simp] theorem in63e_l400 : In63e 400 = True := eq_true ⟨by decide, by decide⟩
@[simp] theorem in64_l400 : In64 400 = True := eq_true ⟨by decide, by decide⟩
@[simp] theorem dvr_l400 : Dvr 400 = True := eq_true ⟨by decide, by decide⟩
@[simp] theorem in62_l600 : In62 600 = True := eq_true ⟨by decide, by decide⟩
@[simp] theorem in63_l600 : In63 600 = True := eq_true ⟨by decide, by decide⟩
@[simp] theorem in63e_l600 : In63e 600 = True := eq_true ⟨by decide, by decide⟩
@[simp] theorem in64_l600 : In64 600 = True := eq_true ⟨by decide, by decide⟩
@[simp] theorem dvr_l600 : Dvr 600 = True := eq_true ⟨by decide, by decide⟩
@[simp] theorem in62_l700 : In62 700 = True := eq_true ⟨by decide, by decide⟩
@[simp] theorem in63_l700 : In63 700 = True := eq_true ⟨by decide, by decide⟩
@[simp] theorem in63e_l700 : In63e 700 = True := eq_true ⟨by decide, by decide⟩
@[simp] theorem in64_l700 : In64 700 = True := eq_true ⟨by decide, by decide⟩
@[simp] theorem dvr_l700 : Dvr 700 = True := eq_true ⟨by decide, by decide⟩
@[simp] theorem in62_l729 : In62 729 = True := eq_true ⟨by decide, by decide⟩
@[simp] theorem in63_l729 : In63 729 = True := eq_true ⟨by decide, by decide⟩
@[simp] theorem in63e_l729 : In63e 729 = True := eq_true ⟨by decide, by decide⟩
@[simp] theorem in64_l729 : In64 729 = True := eq_true ⟨by decide, by decide⟩
@[simp] theorem dvr_l729 : Dvr 729 = True := eq_true ⟨by decide, by decide⟩
@[simp] theorem in62_l924 : In62 924 = True := eq_true ⟨by decide, by decide⟩
@[simp] theorem in63_l924 : In63 924 = True := eq_true ⟨by decide, by decide⟩
@[simp] theorem in63e_l924 : In63e 924 = True := eq_true ⟨by decide, by decide⟩
@[simp] theorem in64_l924 : In64 924 = True := eq_true ⟨by decide, by decide⟩
@[simp] theorem dvr_l924 : Dvr 924 = True := eq_true ⟨by decide, by decide⟩
@[simp] theorem in62_l1000 : In62 1000 = True := eq_true ⟨by decide, by decide⟩
@[simp] theorem in63_l1000 : In63 1000 = True := eq_true ⟨by decide, by decide⟩
@[simp] theorem in63e_l1000 : In63e 1000 = True := eq_true ⟨by decide, by decide⟩
@[simp] theorem in64_l1000 : In64 1000 = True := eq_true ⟨by decide, by decide⟩
@[simp] theorem dvr_l1000 : Dvr 1000 = True := eq_true ⟨by decide, by decide⟩
@[simp] theorem in62_l3000 : In62 3000 = True := eq_true ⟨by decide, by decide⟩
@[simp] theorem in63_l3000 : In63 3000 = True := eq_true ⟨by decide, by decide⟩
@[simp] theorem in63e_l3000 : In63e 3000 = True := eq_true ⟨by decide, by decide⟩
@[simp] theorem in64_l3000 : In64 3000 = True := eq_true ⟨by decide, by decide⟩
@[simp] theorem dvr_l3000 : Dvr 3000 = True := eq_true ⟨by decide, by decide⟩
@[simp] theorem in62_l4096 : In62 4096 = True := eq_true ⟨by decide, by decide⟩
@[simp] theorem in63_l4096 : In63 4096 = True := eq_true ⟨by decide, by decide⟩
@[simp] theorem in63e_l4096 : In63e 4096 = True := eq_true ⟨by decide, by decide⟩
@[simp] theorem in64_l4096 : In64 4096 = True := eq_true ⟨by decide, by decide⟩
@[simp] theorem dvr_l4096 : Dvr 4096 = True := eq_true ⟨by decide, by decide⟩
@[simp] theorem in62_l7919 : In62 7919 = True := eq_true ⟨by decide, by decide⟩
@[simp] theorem in63_l7919 : In63 7919 = True := eq_true ⟨by decide, by decide⟩
@[simp] theorem in63e_l7919 : In63e 7919 = True := eq_true ⟨by decide, by decide⟩
@[simp] theorem in64_l7919 : In64 7919 = True := eq_true ⟨by decide, by decide⟩
@[simp] theorem dvr_l7919 : Dvr 7919 = True := eq_true ⟨by decide, by decide⟩
@[simp] theorem in62_l10007 : In62 10007 = True := eq_true ⟨by decide, by decide⟩
@[simp] theorem in63_l10007 : In63 10007 = True := eq_true ⟨by decide, by decide⟩
@[simp] theorem in63e_l10007 : In63e 10007 = True := eq_true ⟨by decide, by decide⟩
@[simp] theorem in64_l10007 : In64 10007 = True := eq_true ⟨by decide, by decide⟩
@[simp] theorem dvr_l10007 : Dvr 10007 = True := eq_true ⟨by decide, by decide⟩
@[simp] theorem in62_l30011 : In62 30011 = True := eq_true ⟨by decide, by decide⟩
@[simp] theorem in63_l30011 : In63 30011 = True := eq_true ⟨by decide, by decide⟩
@[simp] theorem in63e_l30011 : In63e 30011 = True := eq_true ⟨by decide, by decide⟩
@[simp] theorem in64_l30011 : In64 30011 = True := eq_true ⟨by decide, by decide⟩
@[simp] theorem dvr_l30011 : Dvr 30011 = True := eq_true ⟨by decide, by decide⟩
@[simp] theorem in62_l40503 : In62 40503 = True := eq_true ⟨by decide, by decide⟩
@[simp] theorem in63_l40503 : In63 40503 = True := eq_true ⟨by decide, by decide⟩
@[simp] theorem in63e_l40503 : In63e 40503 = True := eq_true ⟨by decide, by decide⟩
@[simp] theorem in64_l40503 : In64 40503 = True := eq_true ⟨by decide, by decide⟩
@[simp] theorem dvr_l40503 : Dvr 40503 = True := eq_true ⟨by decide, by decide⟩
@[simp] theorem in62_l40692 : In62 40692 = True := eq_true ⟨by decide, by decide⟩
@[simp] theorem in63_l40692 : In63 40692 = True := eq_true ⟨by decide, by decide⟩
@[simp] theorem in63e_l40692 : In63e 40692 = True := eq_true ⟨by decide, by decide⟩
@[simp] theorem in64_l40692 : In64 40692 = True := eq_true ⟨by decide, by decide⟩
@[simp] theorem dvr_l40692 : Dvr 40692 = True := eq_true ⟨by decide, by decide⟩
@[simp] theorem in62_l48271 : In62 48271 = True := eq_true ⟨by decide, by decide⟩
@[simp] theorem in63_l48271 : In63 48271 = True := eq_true ⟨by decide, by decide⟩
@[simp] theorem in63e_l48271 : In63e 48271 = True := eq_true ⟨by decide, by decide⟩
@[simp] theorem in64_l48271 : In64 48271 = True := eq_true ⟨by decide, by decide⟩
@[simp] theorem dvr_l48271 : Dvr 48271 = True := eq_true ⟨by decide, by decide⟩
@[simp] theorem in62_l69621 : In62 69621 = True := eq_true ⟨by decide, by decide⟩
@[simp] theorem in63_l69621 : In63 69621 = True := eq_true ⟨by decide, by decide⟩
@[simp] theorem in63e_l69621 : In63e 69621 = True := eq_true ⟨by decide, by decide⟩
@[simp] theorem in64_l69621 : In64 69621 = True := eq_true ⟨by decide, by decide⟩
@[simp] theorem dvr_l69621 : Dvr 69621 = True := eq_true ⟨by decide, by decide⟩
@[simp] theorem in62_l1000000 : In62 1000000 = True := eq_true ⟨by decide, by decide⟩
@[simp] theorem in63_l1000000 : In63 1000000 = True := eq_true ⟨by decide, by decide⟩
@[simp] theorem in63e_l1000000 : In63e 1000000 = True := eq_true ⟨by decide, by decide⟩
@[simp] theorem in64_l1000000 : In64 1000000 = True := eq_true ⟨by decide, by decide⟩
@[simp] theorem dvr_l1000000 : Dvr 1000000 = True := eq_true ⟨by decide, by decide⟩
@[simp] theorem in62_l1000003 : In62 1000003 = True := eq_true ⟨by decide, by decide⟩
@[simp] theorem in63_l1000003 : In63 1000003 = True := eq_true ⟨by decide, by decide⟩
@[simp] theorem in63e_l1000003 : In63e 1000003 = True := eq_true ⟨by decide, by decide⟩
@[simp] theorem in64_l1000003 : In64 1000003 = True := eq_true ⟨by decide, by decide⟩
@[simp] theorem dvr_l1000003 : Dvr 1000003 = True := eq_true ⟨by decide, by decide⟩
@[simp] theorem in62_l2147483587 : In62 2147483587 = True := eq_true ⟨by decide, by decide⟩
@[simp] theorem in63_l2147483587 : In63 2147483587 = True := eq_true ⟨by decide, by decide⟩
@[simp] theorem in63e_l2147483587 : In63e 2147483587 = True := eq_true ⟨by decide, by decide⟩
@[simp] theorem in64_l2147483587 : In64 2147483587 = True := eq_true ⟨by decide, by decide⟩
@[simp] theorem dvr_l2147483587 : Dvr 2147483587 = True := eq_true ⟨by decide, by decide⟩
@[simp] theorem in62_l2147483629 : In62 2147483629 = True := eq_true ⟨by decide, by decide⟩
@[simp] theorem in63_l2147483629 : In63 2147483629 = True := eq_true ⟨by decide, by decide⟩
@[simp] theorem in63e_l2147483629 : In63e 2147483629 = True := eq_true ⟨by decide, by decide⟩
@[simp] theorem in64_l2147483629 : In64 2147483629 = True := eq_true ⟨by decide, by decide⟩
@[simp] theorem dvr_l2147483629 : Dvr 2147483629 = True := eq_true ⟨by decide, by decide⟩
@[simp] theorem in62_l2147483647 : In62 2147483647 = True := eq_true ⟨by decide, by decide⟩
@[simp] theorem in63_l2147483647 : In63 2147483647 = True := eq_true ⟨by decide, by decide⟩
@[simp] theorem in63e_l2147483647 : In63e 2147483647 = True := eq_true ⟨by decide, by decide⟩
@[simp] theorem in64_l2147483647 : In64 2147483647 = True := eq_true ⟨by decide, by decide⟩
@[simp] theorem dvr_l2147483647 : Dvr 2147483647 = True := eq_true ⟨by decide, by decide⟩
@[simp] theorem in62_l100000000000 : In62 100000000000 = True := eq_true ⟨by decide, by decide⟩
@[simp] theorem in63_l100000000000 : In63 100000000000 = True := eq_true ⟨by decide, by decide⟩
@[simp] theorem in63e_l100000000000 : In63e 100000000000 = True := eq_true ⟨by decide, by decide⟩
@[simp] theorem in64_l100000000000 : In64 100000000000 = True := eq_true ⟨by decide, by decide⟩
@[simp] theorem dvr_l100000000000 : Dvr 100000000000 = True := eq_true ⟨by decide, by decide⟩
@[simp] theorem in62_l1000000000000 : In62 1000000000000 = True := eq_true ⟨by decide, by decide⟩
@[simp] theorem in63_l1000000000000 : In63 1000000000000 = True := eq_true ⟨by decide, by decide⟩
@[simp] theorem in63e_l1000000000000 : In63e 1000000000000 = True := eq_true ⟨by decide, by decide⟩
@[simp] theorem in64_l1000000000000 : In64 1000000000000 = True := eq_true ⟨by decide, by decide⟩
@[simp] theorem dvr_l1000000000000 : Dvr 1000000000000 = True := eq_true ⟨by decide, by decide⟩
@[simp] theorem in62_l10000000000000 : In62 10000000000000 = True := eq_true ⟨by decide, by decide⟩
@[simp] theorem in63_l10000000000000 : In63 10000000000000 = True := eq_true ⟨by decide, by decide⟩
@[simp] theorem in63e_l10000000000000 : In63e 10000000000000 = True := eq_true ⟨by decide, by decide⟩
@[simp] theorem in64_l10000000000000 : In64 10000000000000 = True := eq_true ⟨by decide, by decide⟩
@[simp] theorem dvr_l10000000000000 : Dvr 10000000000000 = True := eq_true ⟨by decide, by decide⟩
@[simp] theorem in62_l100000000000000 : In62 100000000000000 = True := eq_true ⟨by decide, by decide⟩
@[simp] theorem in63_l100000000000000 : In63 100000000000000 = True := eq_true ⟨by decide, by decide⟩
@[simp] theorem in63e_l100000000000000 : In63e 100000000000000 = True := eq_true ⟨by decide, by decide⟩
@[simp] theorem in64_l100000000000000 : In64 100000000000000 = True := eq_true ⟨by decide, by decide⟩
@[simp] theorem dvr_l100000000000000 : Dvr 100000000000000 = True := eq_true ⟨by decide, by decide⟩
@[simp] theorem in62_l1000000000000000 : In62 1000000000000000 = True := eq_true ⟨by decide, by decide⟩
@[simp] theorem in63_l1000000000000000 : In63 1000000000000000 = True := eq_true ⟨by decide, by decide⟩
@[simp] theorem in63e_l1000000000000000 : In63e 1000000000000000 = True := eq_true ⟨by decide, by decide⟩
@[simp] theorem in64_l1000000000000000 : In64 1000000000000000 = True := eq_true ⟨by decide, by decide⟩
@[simp] theorem dvr_l1000000000000000 : Dvr 1000000000000000 = True := eq_true ⟨by decide, by decide⟩
@[simp] theorem in62_l1000000000000000000 : In62 1000000000000000000 = True := eq_true ⟨by decide, by decide⟩
@[simp] theorem in63_l1000000000000000000 : In63 1000000000000000000 = True := eq_true ⟨by decide, by decide⟩
@[simp] theorem in63e_l1000000000000000000 : In63e 1000000000000000000 = True := eq_true ⟨by decide, by decide⟩
@[simp] theorem in64_l1000000000000000000 : In64 1000000000000000000 = True := eq_true ⟨by decide, by decide⟩
@[simp] theorem dvr_l1000000000000000000 : Dvr 1000000000000000000 = True := eq_true ⟨by decide, by decide⟩
def dats (ds : List PD) : List Cel := ds.map Cel.dat
@[simp] theorem dats_nil : dats [] = [] := (rfl)
@[simp] theorem dats_pd {ds : List PD} : (dats ds).map Cel.pd = ds := by unfold dats; rw [List.map_map, show Cel.pd ∘ Cel.dat = id from rfl, List.map_id]
@[simp] theorem dats_len {ds : List PD} : (dats ds).length = ds.length := by unfold dats; exact List.length_map ..
@[simp] theorem dats_app {ds es : List PD} : dats ds ++ dats es = dats (ds ++ es) := by unfold dats; exact List.map_append.symm
@[simp] theorem dats_app1 {ds : List PD} {d : PD} : dats ds ++ [Cel.dat d] = dats (ds ++ [d]) := by unfold dats; rw [List.map_append]; rfl
@[simp] theorem dats_set {ds : List PD} {d : PD} {i : Nat} : (dats ds).set i (Cel.dat d) = dats (ds.set i d) := by unfold dats; rw [List.map_set]
@[simp] theorem dats_erase {ds : List PD} {i : Nat} : (dats ds).eraseIdx i = dats (ds.eraseIdx i) := by
  unfold dats
  induction ds generalizing i with
  | nil => rfl
  | cons x xs ih => cases i with
    | zero => rfl
    | succ i => simp [ih]
@[simp] theorem dats_take {ds : List PD} {i : Nat} : (dats ds).take i = dats (ds.take i) := by unfold dats; rw [List.map_take]
@[simp] theorem dats_drop {ds : List PD} {i : Nat} : (dats ds).drop i = dats (ds.drop i) := by unfold dats; rw [List.map_drop]
abbrev natD (n : Nat) : PD := .int (n : Nat)
abbrev kk0 : KK := ⟨[], fun _ => none, fun _ => none, 0⟩
section
variable {ρ : Env} {v : VE}
@[simp] theorem q_mk_nil : mk [] = [] := (rfl)
@[simp] theorem q_mk_cons {s : Sl} {r : Env} : mk (s :: r) = s.mk :: mk r := (rfl)
@[simp] theorem q_vw_nil : vw [] = [] := (rfl)
@[simp] theorem q_vw_cons {s : Sl} {r : Env} : vw (s :: r) = s.vw :: vw r := (rfl)
@[simp] theorem q_mk_dat {d : PD} : (Sl.dat d).mk = some d := (rfl)
@[simp] theorem q_mk_un : Sl.un.mk = none := (rfl)
@[simp] theorem q_mk_own {cs : List Cel} : (Sl.own cs).mk = none := (rfl)
@[simp] theorem q_vw_dat {d : PD} : (Sl.dat d).vw = some d := (rfl)
@[simp] theorem q_vw_un : Sl.un.vw = none := (rfl)
@[simp] theorem q_vw_own {cs : List Cel} : (Sl.own cs).vw = some (.list (cs.map Cel.pd)) := (rfl)
@[simp] theorem q_pd_dat {d : PD} : (Cel.dat d).pd = d := (rfl)
@[simp] theorem q_pd_sub {ds : List PD} : (Cel.sub ds).pd = .list ds := (rfl)
@[simp] theorem q_var {i : Nat} : xVar i v = (v[i]?).bind id := (rfl)
@[simp] theorem q_c {d : PD} : xC d v = some d := (rfl)
@[simp] theorem q_op {f : PD → PD → Option PD} {a b : XE} : xOp f a b v = (a v).bind fun x => (b v).bind fun y => f x y := (rfl)
@[simp] theorem q_un {f : PD → Option PD} {a : XE} : xUn f a v = (a v).bind f := (rfl)
@[simp] theorem q_nil : xNil v = some [] := (rfl)
@[simp] theorem q_cons {a : XE} {as : XA} : xCons a as v = (a v).bind fun x => (as v).bind fun xs => some (x :: xs) := (rfl)
@[simp] theorem q_tup {as : XA} : xTup as v = (as v).bind fun ds => grd (ds.length ≤ 100000) (some (.tuple ds)) := by
  unfold xTup
  simp only [grd_ite]
@[simp] theorem q_lst {as : XA} : xLst as v = (as v).bind fun ds => grd (ds.length ≤ 100000) (some (.list ds)) := by
  unfold xLst
  simp only [grd_ite]
@[simp] theorem q_cb {f : List PD → Option PD} {as : XA} : xCB f as v = (as v).bind f := (rfl)
@[simp] theorem q_isB {b : Bool} : isB (.bool b) = some b := (rfl)
@[simp] theorem q_B {a : XE} : xB a v = (a v).bind isB := (rfl)
@[simp] theorem q_tor {a b : XT} : xTOr a b v = (a v).bind fun c => orO c (b v) := (rfl)
@[simp] theorem q_tnot {a : XT} : xTNot a v = (a v).bind fun c => some (!c) := (rfl)
@[simp] theorem q_yes : xYes v = some true := (rfl)
@[simp] theorem q_and {a b : XE} : xAnd a b v = ((a v).bind isB).bind fun c => andV c (b v) := (rfl)
@[simp] theorem q_not {a : XE} : xNot a v = ((a v).bind isB).bind fun c => some (.bool (!c)) := (rfl)
@[simp] theorem q_chain {f g : PD → PD → Option PD} {a b c : XE} : xChain f g a b c v = (a v).bind fun x => (b v).bind fun y => ((f x y).bind isB).bind fun k => andV k ((c v).bind fun z => g y z) := (rfl)
@[simp] theorem q_isi {t : Ty} {a : XE} : xIsi t a v = (a v).bind fun d => grd (full d = false) (some (.bool (isTy t d))) := by
  unfold xIsi
  congr 1
  funext d
  rw [← grd_ite]
  cases full d <;> rfl
@[simp] theorem q_on1 {f : PD → Option PD} {x : PD} : on1 f [x] = f x := (rfl)
@[simp] theorem q_xiE {a : XE} : xiE a v = (a v).bind seqP := (rfl)
@[simp] theorem q_xiA {f : List PD → Option (List PD)} {as : XA} : xiA f as v = (as v).bind f := (rfl)
@[simp] theorem q_lc {src : XI} {g : XGV} {t : XT} {e : XE} {vs : List Nat} : xLc src g t e vs v = (src v).bind fun xs => grd (xs.length ≤ 40000) ((lcGo g t e (clear v vs) xs).bind fun ds => some (.list ds)) := by
  unfold xLc
  simp only [grd_ite]
@[simp] theorem q_clear_nil : clear v [] = v := (rfl)
@[simp] theorem q_clear_cons {i : Nat} {vs : List Nat} : clear v (i :: vs) = (clear v vs).set i none := (rfl)
@[simp] theorem q_gvName {i : Nat} {x : PD} : gvName i x v = some (v.set i (some x)) := (rfl)
@[simp] theorem q_add_i {i j : Int} : addP (.int i) (.int j) = some (.int (i + j)) := (rfl)
@[simp] theorem q_add_l {xs ys : List PD} : addP (.list xs) (.list ys) = grd (xs.length + ys.length ≤ 100000) (some (.list (xs ++ ys))) := by
  unfold addP
  simp only [grd_ite]
@[simp] theorem q_add_t {xs ys : List PD} : addP (.tuple xs) (.tuple ys) = grd (xs.length + ys.length ≤ 100000) (some (.tuple (xs ++ ys))) := by
  unfold addP
  simp only [grd_ite]
@[simp] theorem q_div {i j : Int} : divP (.int i) (.int j) = grd (Dvr j) (some (.int (i / j))) := by
  unfold divP
  simp only [grd_ite]
  exact grd_iff ⟨fun h => ⟨h.1, h.2⟩, fun h => ⟨h.lo, h.hi⟩⟩
@[simp] theorem q_mod {i j : Int} : modP (.int i) (.int j) = grd (0 < j) (some (.int (i % j))) := by
  unfold modP
  simp only [grd_ite]
  rfl
@[simp] theorem q_pow {i j : Int} : powP (.int i) (.int j) = grd (0 ≤ j ∧ j ≤ 1000 ∧ In63 i) (some (.int (i ^ j.toNat))) := by
  unfold powP
  simp only [grd_ite]
  exact grd_iff ⟨fun h => ⟨h.1, h.2.1, h.2.2.1, h.2.2.2⟩, fun h => ⟨h.1, h.2.1, h.2.2.lo, h.2.2.hi⟩⟩
@[simp] theorem q_mul {i j : Int} : mulP (.int i) (.int j) = grd (In64 i ∨ In64 j) (some (.int (i * j))) := by
  unfold mulP
  simp only [grd_ite]
  exact grd_iff ⟨fun h => h.elim (fun h => .inl ⟨h.1, h.2⟩) fun h => .inr ⟨h.1, h.2⟩, fun h => h.elim (fun h => .inl ⟨h.lo, h.hi⟩) fun h => .inr ⟨h.lo, h.hi⟩⟩
@[simp] theorem q_le {i j : Int} : leP (.int i) (.int j) = some (.bool (decide (i ≤ j))) := (rfl)
@[simp] theorem q_gtU {i j : Int} : gtU (.int i) (.int j) = some (.bool (decide (j < i))) := (rfl)
@[simp] theorem q_ge {i j : Int} : geP (.int i) (.int j) = some (.bool (decide (j ≤ i))) := (rfl)
@[simp] theorem q_neg {i : Int} : negP (.int i) = some (.int (-i)) := (rfl)
@[simp] theorem q_eq_i {i j : Int} : eqP (.int i) (.int j) = some (.bool (i == j)) := (rfl)
@[simp] theorem q_ne_i {i j : Int} : neP (.int i) (.int j) = some (.bool (!(i == j))) := (rfl)
@[simp] theorem q_isNone_n : isNone .none = true := (rfl)
@[simp] theorem q_isNone_i {i : Int} : isNone (.int i) = false := (rfl)
@[simp] theorem q_isNone_t {ds : List PD} : isNone (.tuple ds) = false := (rfl)
@[simp] theorem q_ix_t {ds : List PD} {i : Int} : ixP (.tuple ds) (.int i) = atI ds i := (rfl)
@[simp] theorem q_ix_l {ds : List PD} {i : Int} : ixP (.list ds) (.int i) = atI ds i := (rfl)
@[simp] theorem q_ix_s {ds : List PD} {i : Int} : ixP (scrD ds) (.int i) = atI ds i := (rfl)
@[simp] theorem q_seq_t {ds : List PD} : seqP (.tuple ds) = some ds := (rfl)
@[simp] theorem q_seq_l {ds : List PD} : seqP (.list ds) = some ds := (rfl)
@[simp] theorem q_seq_s {ds : List PD} : seqP (scrD ds) = some ds := (rfl)
@[simp] theorem q_len_t {ds : List PD} : lenP (.tuple ds) = some (natD ds.length) := (rfl)
@[simp] theorem q_len_l {ds : List PD} : lenP (.list ds) = some (natD ds.length) := (rfl)
@[simp] theorem q_len_s {ds : List PD} : lenP (scrD ds) = some (natD ds.length) := (rfl)
@[simp] theorem q_absP {i : Int} : absP (.int i) = some (.int (if i < 0 then -i else i)) := (rfl)
@[simp] theorem q_enum_t {ds : List PD} : enumP [.tuple ds] = some (pairsD ds) := (rfl)
@[simp] theorem q_enum_l {ds : List PD} : enumP [.list ds] = some (pairsD ds) := (rfl)
@[simp] theorem q_rng {j : Int} : rngP [.int j] = grd (In62 j) (some ((List.range j.toNat).map natD)) := by
  have e : (List.range j.toNat).map (fun k => PyData.int (0 + (k : Nat))) = (List.range j.toNat).map natD := by
    apply List.map_congr_left
    intro k _
    rw [Int.zero_add]
  unfold rngP
  dsimp only
  rw [e, grd_ite]
  exact grd_iff ⟨fun h => ⟨h.1, h.2⟩, fun h => ⟨h.lo, h.hi⟩⟩
@[simp] theorem q_full_n : full .none = false := (rfl)
@[simp] theorem q_full_b {b : Bool} : full (.bool b) = false := (rfl)
@[simp] theorem q_full_i {i : Int} : full (.int i) = false := (rfl)
@[simp] theorem q_full_s {x : Str} : full (.str x) = false := (rfl)
@[simp] theorem q_full_l {ds : List PD} : full (.list ds) = false := (rfl)
@[simp] theorem q_full_t {ds : List PD} : full (.tuple ds) = false := (rfl)
@[simp] theorem q_full_d : full (.dict []) = false := (rfl)
@[simp] theorem q_full_d1 {k : Str} {d : PD} {r : List (PD × PD)} : full (.dict ((.str k, d) :: r)) = false := (rfl)
@[simp] theorem q_flat_n : flat .none = true := by simp [flat]
@[simp] theorem q_flat_b {b : Bool} : flat (.bool b) = true := by simp [flat]
@[simp] theorem q_flat_i {i : Int} : flat (.int i) = true := by simp [flat]
@[simp] theorem q_flat_s {x : Str} : flat (.str x) = true := by simp [flat]
@[simp] theorem q_flat_t {ds : List PD} : flat (.tuple ds) = flats ds := by simp [flat]
@[simp] theorem q_flats_nil : flats [] = true := by simp [flats]
@[simp] theorem q_flats_cons {d : PD} {ds : List PD} : flats (d :: ds) = (flat d && flats ds) := by simp [flats]
@[simp] theorem q_wM {x : XE} : wM x ρ = (x (mk ρ)).bind fun d => some (d, ρ) := (rfl)
@[simp] theorem q_wV {x : XE} : wV x ρ = (x (vw ρ)).bind fun d => grd (flat d = true) (some (d, ρ)) := by
  unfold wV
  simp only [grd_ite]
@[simp] theorem q_wMT {x : XT} : wMT x ρ = (x (mk ρ)).bind fun d => some (d, ρ) := (rfl)
@[simp] theorem q_wVT {x : XT} : wVT x ρ = (x (vw ρ)).bind fun d => some (d, ρ) := (rfl)
@[simp] theorem q_wNil : wNil ρ = some ([], ρ) := (rfl)
@[simp] theorem q_wCons {a : XW} {as : XWA} : wCons a as ρ = (a ρ).bind fun x => (as x.2).bind fun xs => some (x.1 :: xs.1, xs.2) := (rfl)
@[simp] theorem q_wOp {f : PD → PD → Option PD} {a b : XW} : wOp f a b ρ = (a ρ).bind fun x => (b x.2).bind fun y => (f x.1 y.1).bind fun z => some (z, y.2) := (rfl)
@[simp] theorem q_wCB {f : List PD → Option PD} {as : XWA} : wCB f as ρ = (as ρ).bind fun x => (f x.1).bind fun z => some (z, x.2) := (rfl)
@[simp] theorem q_wCallK {i : Nat} {g : List Cel → List PD → Option (PD × List Cel)} {as : XWA} : wCallK i g as ρ = (ownAt ρ i).bind fun _ => (as ρ).bind fun x => (ownAt x.2 i).bind fun cs => (g cs x.1).bind fun y => some (y.1, x.2.set i (.own y.2)) := (rfl)
@[simp] theorem q_ownAt0 {cs : List Cel} {r : Env} : ownAt (.own cs :: r) 0 = some cs := (rfl)
@[simp] theorem q_ownAtS {s : Sl} {r : Env} {i : Nat} : ownAt (s :: r) (i + 1) = ownAt r i := (rfl)
@[simp] theorem q_wOM {x : XE} : wOM x ρ = ((x (mk ρ)).bind asList).bind fun ds => some (dats ds, ρ) := (rfl)
@[simp] theorem q_asList {ds : List PD} : asList (.list ds) = some ds := (rfl)
@[simp] theorem q_wOL {as : XWC} : wOL as ρ = (as ρ).bind fun x => grd (x.1.length ≤ 100000) (some x) := by
  unfold wOL
  simp only [grd_ite]
@[simp] theorem q_wcNil : wcNil ρ = some ([], ρ) := (rfl)
@[simp] theorem q_wcDat {a : XW} {as : XWC} : wcDat a as ρ = (a ρ).bind fun x => (as x.2).bind fun xs => some (.dat x.1 :: xs.1, xs.2) := (rfl)
@[simp] theorem q_wcSub {a : XWO} {as : XWC} : wcSub a as ρ = (a ρ).bind fun x => (allDat x.1).bind fun ds => (as x.2).bind fun xs => some (.sub ds :: xs.1, xs.2) := (rfl)
@[simp] theorem q_allDat {ds : List PD} : allDat (dats ds) = some ds := @allDat_map kk0 ds
@[simp] theorem q_allDat_nil : allDat [] = some [] := (rfl)
@[simp] theorem q_wCallD {f : List PD → Option (List Cel)} {as : XWA} : wCallD f as ρ = (as ρ).bind fun x => (f x.1).bind fun cs => some (cs, x.2) := (rfl)
@[simp] theorem q_isI {i : Int} : isI (.int i) = some i := (rfl)
@[simp] theorem q_wiA {f : List PD → Option (List PD)} {as : XWA} : wiA f as ρ = (as ρ).bind fun x => (f x.1).bind fun xs => some (xs, x.2) := (rfl)
@[simp] theorem q_gName {i : Nat} {x : PD} : gName' i x ρ = some (ρ.set i (.dat x)) := (rfl)
@[simp] theorem q_gNil : gNil' [] ρ = some ρ := (rfl)
@[simp] theorem q_gCons {g : XG} {gs : XGs} {x : PD} {xs : List PD} : gCons' g gs (x :: xs) ρ = (g x ρ).bind fun v1 => gs xs v1 := (rfl)
@[simp] theorem q_gTup {n : Nat} {gs : XGs} {x : PD} : gTup' n gs x ρ = (seqP x).bind fun ds => grd (ds.length = n) (gs ds ρ) := by
  unfold gTup'
  simp only [grd_ite]
@[simp] theorem q_sNext : sNext ρ = some (.nxt ρ) := (rfl)
@[simp] theorem q_sRet {w : XW} : sRet w ρ = (w ρ).bind fun x => some (.ret x.1 x.2) := (rfl)
@[simp] theorem q_sRetO {w : XWO} : sRetO w ρ = (w ρ).bind fun x => some (.retO x.1 x.2) := (rfl)
@[simp] theorem q_sIf {c : XWT} {x y : XS} : sIf c x y ρ = (c ρ).bind fun k => alt k.1 (tag (x k.2)) (tag (y k.2)) := (rfl)
@[simp] theorem q_sAsg {g : XG} {w : XW} : sAsg g w ρ = (w ρ).bind fun x => (g x.1 x.2).bind fun ρ1 => some (.nxt ρ1) := (rfl)
@[simp] theorem q_sOwn {i : Nat} {w : XWO} : sOwn i w ρ = (w ρ).bind fun x => grd (i < x.2.length) (some (.nxt (x.2.set i (.own x.1)))) := by
  unfold sOwn
  simp only [grd_ite]
@[simp] theorem q_toSl_d {d : PD} : toSl (.dat d) = .dat d := (rfl)
@[simp] theorem q_toSl_s {ds : List PD} : toSl (.sub ds) = .own (dats ds) := (rfl)
@[simp] theorem q_two {c e : Cel} : two [c, e] = some (c, e) := (rfl)
@[simp] theorem q_sPar {i j : Nat} {as : XWC} : sPar i j as ρ = (as ρ).bind fun x => (two x.1).bind fun c => grd (i < x.2.length ∧ j < x.2.length) (some (.nxt ((x.2.set i (toSl c.1)).set j (toSl c.2)))) := by
  unfold sPar
  simp only [grd_ite]
@[simp] theorem q_sSet {i : Nat} {k : XE} {a : XW} : sSet i k a ρ = (a ρ).bind fun x => (ownAt x.2 i).bind fun cs => ((k (vw x.2)).bind isI).bind fun k => (ixN cs.length k).bind fun n => (datAt cs n).bind fun _ => some (.nxt (x.2.set i (.own (cs.set n (.dat x.1))))) := (rfl)
@[simp] theorem q_sSetS {i : Nat} {k j : XE} {a : XW} : sSetS i k j a ρ = (a ρ).bind fun x => (ownAt x.2 i).bind fun cs => ((k (vw x.2)).bind isI).bind fun k => (ixN cs.length k).bind fun n => (subAt cs n).bind fun ds => ((j (vw x.2)).bind isI).bind fun j => (ixN ds.length j).bind fun m => some (.nxt (x.2.set i (.own (cs.set n (.sub (ds.set m x.1)))))) := (rfl)
@[simp] theorem q_sFz {i : Nat} {y : XS} : sFz i y ρ = y (fzE ρ i) := (rfl)
@[simp] theorem q_fz0 {cs : List Cel} {r : Env} : fzE (.own cs :: r) 0 = .dat (.list (cs.map Cel.pd)) :: r := (rfl)
@[simp] theorem q_fzS {s : Sl} {r : Env} {i : Nat} : fzE (s :: r) (i + 1) = s :: fzE r i := by
  unfold fzE
  rw [List.getElem?_cons_succ]
  cases h : r[i]? with
  | none => rfl
  | some q => cases q <;> rfl
@[simp] theorem q_sFor {src : XWI} {g : XG} {b : XS} : sFor src g b ρ = (src ρ).bind fun x => forGo g b x.1 x.2 := (rfl)
end
end Uv

namespace Uv
open PySem PySem.Spec PyProof.Rows L2
section
variable {ρ : Env} {v : VE}
@[simp] theorem q_sPopS {i : Nat} {k j : XE} : sPopS i k j ρ = (ownAt ρ i).bind fun cs => ((k (vw ρ)).bind isI).bind fun k => (ixN cs.length k).bind fun n => (subAt cs n).bind fun ds => ((j (vw ρ)).bind isI).bind fun j => grd (In63e j) ((ixN ds.length j).bind fun m => some (.nxt (ρ.set i (.own (cs.set n (.sub (ds.eraseIdx m))))))) := by
  unfold sPopS
  simp only [grd_ite]
  congr 1; funext cs; congr 1; funext k; congr 1; funext n; congr 1; funext ds; congr 1; funext j
  exact grd_iff ⟨fun h => ⟨h.1, h.2⟩, fun h => ⟨h.lo, h.hi⟩⟩
@[simp] theorem q_sWhile {n : Nat} {c : XWT} {b : XS} : sWhile n c b ρ = whGo c b n ρ := (rfl)
@[simp] theorem q_clearE_nil : clearE ρ [] = ρ := (rfl)
@[simp] theorem q_clearE_cons {i : Nat} {vs : List Nat} : clearE ρ (i :: vs) = (clearE ρ vs).set i .un := (rfl)
def endP {Q : PD → Prop} (_ : Tag Q) : Out → Prop
  | .ret d _ => Q d
  | .nxt _ => Q .none
  | _ => False
def endW {Q : PD × List Cel → Prop} (_ : Tag Q) : Out → Prop
  | .ret d ρ => wp (ownAt ρ 0) (tag fun cs => Q (d, cs))
  | .nxt ρ => wp (ownAt ρ 0) (tag fun cs => Q (.none, cs))
  | _ => False
def endD' {Q : List Cel → Prop} (_ : Tag Q) : Out → Prop
  | .retO cs _ => Q cs
  | _ => False
section
variable {QP : PD → Prop} {QW : PD × List Cel → Prop} {QD : List Cel → Prop} {d : PD} {cs : List Cel}
@[simp] theorem endP_ret : endP (tag QP) (.ret d ρ) = QP d := (rfl)
@[simp] theorem endP_nxt : endP (tag QP) (.nxt ρ) = QP .none := (rfl)
@[simp] theorem endW_ret : endW (tag QW) (.ret d ρ) = wp (ownAt ρ 0) (tag fun cs => QW (d, cs)) := (rfl)
@[simp] theorem endW_nxt : endW (tag QW) (.nxt ρ) = wp (ownAt ρ 0) (tag fun cs => QW (.none, cs)) := (rfl)
@[simp] theorem endD_ret : endD' (tag QD) (.retO cs ρ) = QD cs := (rfl)
end
theorem wp_runP {n k : Nat} {X : XS} {ds : List PD} {Q : PD → Prop} (hn : ds.length = n) (h : wp (X (ds.map Sl.dat ++ List.replicate k Sl.un)) (tag (endP (tag Q)))) : wp (runP n k X ds) (tag Q) := by
  obtain ⟨o, e, h⟩ := h
  unfold runP
  rw [if_pos hn, e]
  cases o with
  | ret d ρ => exact ⟨_, rfl, h⟩
  | nxt ρ => exact ⟨_, rfl, h⟩
  | _ => exact h.elim
theorem wp_runW {n k : Nat} {X : XS} {cs : List Cel} {ds : List PD} {Q : PD × List Cel → Prop} (hn : ds.length = n) (h : wp (X (.own cs :: (ds.map Sl.dat ++ List.replicate k Sl.un))) (tag (endW (tag Q)))) : wp (runW n k X cs ds) (tag Q) := by
  obtain ⟨o, e, h⟩ := h
  unfold runW
  rw [if_pos hn, e]
  cases o with
  | ret d ρ =>
    obtain ⟨cs', e2, h2⟩ := h
    exact ⟨(d, cs'), by rw [Option.bind_some]; show (ownAt ρ 0).bind _ = _; rw [e2]; rfl, h2⟩
  | nxt ρ =>
    obtain ⟨cs', e2, h2⟩ := h
    exact ⟨(.none, cs'), by rw [Option.bind_some]; show (ownAt ρ 0).bind _ = _; rw [e2]; rfl, h2⟩
  | _ => exact h.elim
theorem wp_runD {n k : Nat} {X : XS} {ds : List PD} {Q : List Cel → Prop} (hn : ds.length = n) (h : wp (X (ds.map Sl.dat ++ List.replicate k Sl.un)) (tag (endD' (tag Q)))) : wp (runD n k X ds) (tag Q) := by
  obtain ⟨o, e, h⟩ := h
  unfold runD
  rw [if_pos hn, e]
  cases o with
  | retO d ρ => exact ⟨_, rfl, h⟩
  | _ => exact h.elim
theorem eq_of_wp {α : Type} {o : Option α} {a : α} (h : wp o (tag fun x => x = a)) : o = some a := wp_eq.mp h
structure Inv {J : Env → Prop} (t : Tag J) (ρ : Env) : Prop where
  of ::
  to : J ρ
def forK {J : Env → Prop} {Q : Out → Prop} (_ : Tag J) (_ : Tag Q) : Out → Prop
  | .nxt ρ => Inv (tag J) ρ
  | .cnt ρ => Inv (tag J) ρ
  | .brk ρ => Q (.nxt ρ)
  | .ret d ρ => Q (.ret d ρ)
  | .retO d ρ => Q (.retO d ρ)
section
variable {J : Env → Prop} {Q : Out → Prop} {d : PD} {cs : List Cel}
@[simp] theorem forK_nxt : forK (tag J) (tag Q) (.nxt ρ) = Inv (tag J) ρ := (rfl)
@[simp] theorem forK_cnt : forK (tag J) (tag Q) (.cnt ρ) = Inv (tag J) ρ := (rfl)
@[simp] theorem forK_brk : forK (tag J) (tag Q) (.brk ρ) = Q (.nxt ρ) := (rfl)
@[simp] theorem forK_ret : forK (tag J) (tag Q) (.ret d ρ) = Q (.ret d ρ) := (rfl)
@[simp] theorem forK_retO : forK (tag J) (tag Q) (.retO cs ρ) = Q (.retO cs ρ) := (rfl)
end
theorem wp_for {g : XG} {b : XS} {xs : List PD} {Q : Out → Prop} (I : Nat → Env → Prop) (h0 : I 0 ρ) (hs : ∀ (i : Nat) (h : i < xs.length) (ρ : Env), I i ρ → wp (g xs[i] ρ) (tag fun ρ1 => wp (b ρ1) (tag (forK (tag (I (i + 1))) (tag Q))))) (hq : ∀ ρ, I xs.length ρ → Q (.nxt ρ)) : wp (forGo g b xs ρ) (tag Q) := by
  induction xs generalizing ρ I with
  | nil => exact ⟨_, rfl, hq ρ h0⟩
  | cons x xs ih =>
    obtain ⟨ρ1, e1, o, e2, h2⟩ := hs 0 (Nat.succ_pos _) ρ h0
    have go : ∀ ρ2, I 1 ρ2 → wp (forGo g b xs ρ2) (tag Q) := fun ρ2 h3 => ih (fun i => I (i + 1)) h3 (fun i hi ρ hI => hs (i + 1) (Nat.succ_lt_succ hi) ρ hI) hq
    have e1 : g x ρ = some ρ1 := e1
    unfold forGo
    rw [e1, Option.bind_some, e2, Option.bind_some]
    cases o with
    | nxt ρ2 => exact go ρ2 h2.to
    | cnt ρ2 => exact go ρ2 h2.to
    | brk ρ2 => exact ⟨_, rfl, h2⟩
    | ret d ρ2 => exact ⟨_, rfl, h2⟩
    | retO d ρ2 => exact ⟨_, rfl, h2⟩
@[simp] theorem Inv_wp {g : Env → Option Out} {Q : Out → Prop} : Inv (tag fun ρ2 => wp (g ρ2) (tag Q)) ρ = wp (g ρ) (tag Q) := propext ⟨fun h => h.to, fun h => ⟨h⟩⟩
theorem wp_forM {α : Type} {g : XG} {b : XS} {l : List α} {enc : α → PD} {Q : Out → Prop} (I : Nat → Env → Prop) (h0 : I 0 ρ) (hs : ∀ (i : Nat) (h : i < l.length) (ρ : Env), I i ρ → wp (g (enc l[i]) ρ) (tag fun ρ1 => wp (b ρ1) (tag (forK (tag (I (i + 1))) (tag Q))))) (hq : ∀ ρ, I l.length ρ → Q (.nxt ρ)) : wp (forGo g b (l.map enc) ρ) (tag Q) :=
  wp_for I h0 (fun i h ρ hI => by
    rw [List.getElem_map]
    exact hs i (by simpa using h) ρ hI) (fun ρ h => hq ρ (by simpa using h))
theorem wp_forR {g : XG} {b : XS} {n : Nat} {Q : Out → Prop} (I : Nat → Env → Prop) (h0 : I 0 ρ) (hs : ∀ (i : Nat) (h : i < n) (ρ : Env), I i ρ → wp (g (natD i) ρ) (tag fun ρ1 => wp (b ρ1) (tag (forK (tag (I (i + 1))) (tag Q))))) (hq : ∀ ρ, I n ρ → Q (.nxt ρ)) : wp (forGo g b ((List.range n).map natD) ρ) (tag Q) :=
  wp_forM I h0 (fun i h ρ hI => by
    rw [List.getElem_range]
    exact hs i (by simpa using h) ρ hI) (fun ρ h => hq ρ (by simpa using h))
theorem pairsD_map {α : Type} (enc : α → PD) (xs : List α) : pairsD (xs.map enc) = (xs.zipIdx).map fun p => .tuple [natD p.2, enc p.1] := by
  unfold pairsD
  rw [List.zipIdx_map, List.map_map]
  rfl
@[simp] theorem pairsD_len {xs : List PD} : (pairsD xs).length = xs.length := by unfold pairsD; simp
theorem wp_forE {α : Type} {g : XG} {b : XS} {l : List α} {enc : α → PD} {Q : Out → Prop} (I : Nat → Env → Prop) (h0 : I 0 ρ) (hs : ∀ (i : Nat) (h : i < l.length) (ρ : Env), I i ρ → wp (g (.tuple [natD i, enc l[i]]) ρ) (tag fun ρ1 => wp (b ρ1) (tag (forK (tag (I (i + 1))) (tag Q))))) (hq : ∀ ρ, I l.length ρ → Q (.nxt ρ)) : wp (forGo g b (pairsD (l.map enc)) ρ) (tag Q) := by
  rw [pairsD_map]
  refine wp_forM I h0 (fun i h ρ hI => ?_) (fun ρ h => hq ρ (by simpa using h))
  have h' : i < l.length := by simpa using h
  have := hs i h' ρ hI
  simp only [List.getElem_zipIdx, Nat.zero_add]
  exact this
theorem wp_while {c : XWT} {b : XS} {n : Nat} {Q : Out → Prop} (I : Nat → Env → Prop) {k : Nat} (hk : k < n) (h0 : I k ρ) (hs : ∀ (k : Nat) (ρ : Env), I k ρ → wp (c ρ) (tag fun x => (x.1 = false → Q (.nxt x.2)) ∧ (x.1 = true → wp (b x.2) (tag (forK (tag fun ρ => ∃ j, j < k ∧ I j ρ) (tag Q)))))) : wp (whGo c b n ρ) (tag Q) := by
  induction n generalizing k ρ with
  | zero => omega
  | succ n ih =>
    obtain ⟨⟨t, ρ1⟩, e1, h1, h2⟩ := hs k ρ h0
    unfold whGo
    rw [e1, Option.bind_some]
    cases t with
    | false => exact ⟨_, rfl, h1 rfl⟩
    | true =>
      obtain ⟨o, e2, h3⟩ := h2 rfl
      have e2 : b ρ1 = some o := e2
      simp only [if_true, e2, Option.bind_some]
      cases o with
      | nxt ρ2 => obtain ⟨j, hj, hI⟩ := h3.to; exact ih (by omega) hI
      | cnt ρ2 => obtain ⟨j, hj, hI⟩ := h3.to; exact ih (by omega) hI
      | brk ρ2 => exact ⟨_, rfl, h3⟩
      | ret d ρ2 => exact ⟨_, rfl, h3⟩
      | retO d ρ2 => exact ⟨_, rfl, h3⟩
theorem wp_lc {α : Type} {g : XGV} {t : XT} {e : XE} {enc : α → PD} (p : α → Bool) (f : α → PD) {l : List α} {Q : List PD → Prop} (h : ∀ x ∈ l, wp (g (enc x) v) (tag fun v1 => wp (t v1) (tag fun b => b = p x ∧ (p x = true → wp (e v1) (tag fun d => d = f x))))) (hq : Q ((l.filter p).map f)) : wp (lcGo g t e v (l.map enc)) (tag Q) := by
  have main : ∀ l : List α, (∀ x ∈ l, wp (g (enc x) v) (tag fun v1 => wp (t v1) (tag fun b => b = p x ∧ (p x = true → wp (e v1) (tag fun d => d = f x))))) → lcGo g t e v (l.map enc) = some ((l.filter p).map f) := by
    intro l
    induction l with
    | nil => intro _; rfl
    | cons x xs ih =>
      intro h
      obtain ⟨v1, h1, b, h2, hb, h3⟩ := h x (List.mem_cons_self ..)
      subst hb
      have ih := ih fun y hy => h y (List.mem_cons_of_mem _ hy)
      rw [List.map_cons]
      unfold lcGo
      rw [h1, Option.bind_some, h2, Option.bind_some, ih]
      cases hp : p x with
      | true =>
        obtain ⟨d, h4, h5⟩ := h3 hp
        subst h5
        rw [if_pos rfl, h4, List.filter_cons, if_pos hp]
        rfl
      | false => rw [if_neg Bool.false_ne_true, List.filter_cons, if_neg (by rw [hp]; exact Bool.false_ne_true)]
  exact ⟨_, main l h, hq⟩
theorem wp_lcT {α : Type} {g : XGV} {e : XE} {enc : α → PD} (f : α → PD) {l : List α} {Q : List PD → Prop} (h : ∀ x ∈ l, wp (g (enc x) v) (tag fun v1 => wp (e v1) (tag fun d => d = f x))) (hq : Q (l.map f)) : wp (lcGo g xYes e v (l.map enc)) (tag Q) :=
  wp_lc (fun _ => true) f (fun x hx => wp_mono (h x hx) fun v1 h1 => ⟨true, rfl, rfl, fun _ => h1⟩) (by rw [List.filter_eq_self.mpr fun _ _ => rfl]; exact hq)
theorem emod_nat {a b : Int} (hb : 0 < b) : ∃ j : Nat, (j : Int) < b ∧ a % b = (j : Int) := by
  have h1 := Int.emod_nonneg a (show b ≠ 0 by omega)
  have h2 := Int.emod_lt_of_pos a hb
  exact ⟨(a % b).toNat, by omega, by omega⟩
theorem atI_nat' {α : Type} {xs : List α} {k : Nat} : atI xs (k : Int) = xs[k]? := by
  unfold atI ixN
  by_cases h : k < xs.length
  · rw [if_pos (by omega), if_pos (by omega)]
    simp
  · rw [if_pos (by omega), if_neg (by omega)]
    simp
    omega
theorem atI_at {α : Type} {xs : List α} {k : Nat} (h : k < xs.length) : atI xs (k : Int) = some xs[k] := by rw [atI_nat', List.getElem?_eq_getElem h]
theorem atI_map {α β : Type} {f : α → β} {xs : List α} {k : Nat} (h : k < xs.length) : atI (xs.map f) (k : Int) = some (f xs[k]) := by rw [atI_nat', List.getElem?_map, List.getElem?_eq_getElem h]; rfl
@[simp] theorem atI_0 {α : Type} {x : α} {xs : List α} : atI (x :: xs) 0 = some x := by simpa using atI_nat' (xs := x :: xs) (k := 0)
@[simp] theorem atI_1 {α : Type} {x y : α} {xs : List α} : atI (x :: y :: xs) 1 = some y := by simpa using atI_nat' (xs := x :: y :: xs) (k := 1)
@[simp] theorem atI_2 {α : Type} {x y z : α} {xs : List α} : atI (x :: y :: z :: xs) 2 = some z := by simpa using atI_nat' (xs := x :: y :: z :: xs) (k := 2)
@[simp] theorem atI_3 {α : Type} {x y z u : α} {xs : List α} : atI (x :: y :: z :: u :: xs) 3 = some u := by simpa using atI_nat' (xs := x :: y :: z :: u :: xs) (k := 3)
@[simp] theorem ixN_20 : ixN 2 0 = some 0 := (rfl)
@[simp] theorem ixN_21 : ixN 2 1 = some 1 := (rfl)
@[simp] theorem ixN_30 : ixN 3 0 = some 0 := (rfl)
@[simp] theorem ixN_31 : ixN 3 1 = some 1 := (rfl)
@[simp] theorem ixN_32 : ixN 3 2 = some 2 := (rfl)
@[simp] theorem ixN_40 : ixN 4 0 = some 0 := (rfl)
@[simp] theorem ixN_41 : ixN 4 1 = some 1 := (rfl)
@[simp] theorem ixN_42 : ixN 4 2 = some 2 := (rfl)
@[simp] theorem ixN_43 : ixN 4 3 = some 3 := (rfl)
theorem ixN_nat' {n k : Nat} (h : k < n) : ixN n (k : Int) = some k := by
  unfold ixN
  rw [if_pos (by omega), if_pos (by omega)]
  simp
@[simp] theorem datAt_0 {d : PD} {r : List Cel} : datAt (.dat d :: r) 0 = some d := (rfl)
@[simp] theorem datAt_S {c : Cel} {r : List Cel} {i : Nat} : datAt (c :: r) (i + 1) = datAt r i := (rfl)
@[simp] theorem subAt_0 {d : List PD} {r : List Cel} : subAt (.sub d :: r) 0 = some d := (rfl)
@[simp] theorem subAt_S {c : Cel} {r : List Cel} {i : Nat} : subAt (c :: r) (i + 1) = subAt r i := (rfl)
theorem wp_pick {α : Type} {l : List α} {r : Nat} {Q : α → Prop} (h : r < l.length) (hq : ∀ x ∈ l, Q x) : wp (atI l (r : Int)) (tag Q) := by
  rw [atI_at h]
  exact ⟨_, rfl, hq _ (List.getElem_mem h)⟩
end
end Uv
namespace Uv
end Uv

namespace Uv
open PySem PySem.Spec PyProof.Rows L2
structure Road where
  b : Option Nat
  e : Option Nat
  r : Int
structure Web where
  roads : List Road
  gives : List (List Nat)
  takes : List (List Nat)
def endD : Option Nat → PD
  | none => .none
  | some n => natD n
def roadD (x : Road) : PD := .tuple [endD x.b, endD x.e, .int x.r]
def natsD (l : List Nat) : PD := .tuple (l.map natD)
def webD (W : Web) : PD := .tuple [.tuple (W.roads.map roadD), .tuple (W.gives.map natsD), .tuple (W.takes.map natsD)]
def side (s : Nat) (x : Road) : Option Nat := if s = 0 then x.b else x.e
def atR (rs : List Road) (s h : Nat) : List Nat := (rs.zipIdx.filter fun p => side s p.1 == some h).map (·.2)
def OkRoad (n : Nat) (x : Road) : Prop := x.b ≠ x.e ∧ (∀ h, x.b = some h → h < n) ∧ (∀ h, x.e = some h → h < n) ∧ 0 ≤ x.r ∧ x.r ≤ 1000000000000
structure IsWeb (W : Web) : Prop where
  houses : 1 ≤ W.gives.length ∧ W.gives.length ≤ 8
  same : W.takes.length = W.gives.length
  count : 1 ≤ W.roads.length ∧ W.roads.length ≤ 20
  road : ∀ x ∈ W.roads, OkRoad W.gives.length x
  give : ∀ (h : Nat) (l : List Nat), W.gives[h]? = some l → l.Perm (atR W.roads 0 h)
  take : ∀ (h : Nat) (l : List Nat), W.takes[h]? = some l → l.Perm (atR W.roads 1 h)
end Uv

namespace Uv
open PySem PySem.Spec PyProof.Rows L2
theorem ok_app {a b : Str} (ha : PyData.strOk a = true) (hb : PyData.strOk b = true) : PyData.strOk (a ++ b) = true := by
  show ((a.cps ++ b.cps).all _) = true
  rw [Array.all_append]
  exact Bool.and_eq_true_iff.mpr ⟨ha, hb⟩
theorem ok_ofS (x : String) : PyData.strOk (Str.ofString x) = true := by
  rw [Str.ofString_eq_toList]
  unfold PyData.strOk
  simp only [List.all_toArray, List.all_map, List.all_eq_true]
  intro c _
  have := c.valid
  simp only [Function.comp_apply, decide_eq_true_eq]
  have h : c.toNat = c.val.toNat := rfl
  rcases this with h1 | h1
  · omega
  · omega
theorem ok_join {sep : Str} (hs : PyData.strOk sep = true) : ∀ {ts : List Str}, (∀ t ∈ ts, PyData.strOk t = true) → PyData.strOk (Str.join sep ts) = true
  | [], _ => by simp [Str.join, Str.empty, PyData.strOk]
  | [t], h => h t (List.mem_cons_self ..)
  | t :: u :: r, h => by
    show PyData.strOk (t ++ sep ++ Str.join sep (u :: r)) = true
    exact ok_app (ok_app (h t (List.mem_cons_self ..)) hs) (ok_join hs fun x hx => h x (List.mem_cons_of_mem _ hx))
theorem ok_from : ∀ {ts : List Str} {k : Nat} {acc : Str}, PyData.strOk acc = true → (∀ t ∈ ts, PyData.strOk t = true) → PyData.strOk (textFrom k acc ts) = true
  | [], _, _, ha, _ => ha
  | t :: r, k, acc, ha, h => by
    show PyData.strOk (textFrom (k + 1) _ r) = true
    exact ok_from (ok_app (ok_app ha (ok_ofS _)) (h t (List.mem_cons_self ..))) fun x hx => h x (List.mem_cons_of_mem _ hx)
structure Sho (k n : Nat) (d : PD) : Prop where
  sh : d.showable = true
  nd : scrF d = true
  dp : d.depth ≤ k
  ln : d.shown.length ≤ n
  ok : PyData.strOk d.shown = true
section
variable {k n : Nat} {d : PD} {ds : List PD}
theorem Sho.mono {k' n' : Nat} (h : Sho k n d) (hk : k ≤ k') (hn : n ≤ n') : Sho k' n' d := ⟨h.sh, h.nd, Nat.le_trans h.dp hk, Nat.le_trans h.ln hn, h.ok⟩
theorem all_show (h : ∀ d ∈ ds, PyData.showable d = true) : PyData.showableAll ds = true := by
  induction ds with
  | nil => rfl
  | cons d ds ih => rw [PyData.showableAll, h d (List.mem_cons_self ..), ih fun x hx => h x (List.mem_cons_of_mem _ hx)]; rfl
theorem all_noD (h : ∀ d ∈ ds, scrF d = true) : scrFs ds = true := by
  induction ds with
  | nil => rfl
  | cons d ds ih => rw [scrFs, h d (List.mem_cons_self ..), ih fun x hx => h x (List.mem_cons_of_mem _ hx)]; rfl
theorem all_depth (h : ∀ d ∈ ds, PyData.depth d ≤ n) : PyData.depthAll ds ≤ n := by
  induction ds with
  | nil => exact Nat.zero_le _
  | cons d ds ih =>
    have h1 := h d (List.mem_cons_self ..)
    have h2 := ih fun x hx => h x (List.mem_cons_of_mem _ hx)
    rw [PyData.depthAll]
    omega
theorem all_shown (h : ∀ d ∈ ds, PyData.strOk d.shown = true) : ∀ t ∈ PyData.shownAll ds, PyData.strOk t = true := by
  induction ds with
  | nil => intro t ht; exact nomatch ht
  | cons d ds ih =>
    intro t ht
    rw [PyData.shownAll] at ht
    rcases List.mem_cons.mp ht with e | e
    · rw [e]; exact h d (List.mem_cons_self ..)
    · exact ih (fun x hx => h x (List.mem_cons_of_mem _ hx)) t e
theorem all_len (h : ∀ d ∈ ds, d.shown.length ≤ n) : ((PyData.shownAll ds).map (·.length)).sum + 2 * (PyData.shownAll ds).length ≤ ds.length * (n + 2) := by
  induction ds with
  | nil => exact Nat.zero_le _
  | cons d ds ih =>
    have h1 := h d (List.mem_cons_self ..)
    have h2 := ih fun x hx => h x (List.mem_cons_of_mem _ hx)
    rw [PyData.shownAll]
    simp only [List.map_cons, List.sum_cons, List.length_cons, Nat.succ_mul]
    omega
theorem Sho.tup {L : Nat} (h : ∀ d ∈ ds, Sho k n d) (hl : ds.length ≤ L) : Sho (k + 1) (L * (n + 2) + 3) (.tuple ds) := by
  refine ⟨all_show fun d hd => (h d hd).sh, all_noD fun d hd => (h d hd).nd, Nat.succ_le_succ (all_depth fun d hd => (h d hd).dp), ?_, ?_⟩
  · have h1 := tupleText_len_le (PyData.shownAll ds)
    have h2 := all_len fun d hd => (h d hd).ln
    have h3 := Nat.mul_le_mul_right (n + 2) hl
    show (tupleText (PyData.shownAll ds)).length ≤ _
    omega
  · exact ok_app (ok_app (ok_ofS _) (ok_join (ok_ofS _) (all_shown fun d hd => (h d hd).ok))) (ok_ofS _)
theorem Sho.lst {L : Nat} (h : ∀ d ∈ ds, Sho k n d) (hl : ds.length ≤ L) : Sho (k + 1) (L * (n + 2) + 3) (.list ds) := by
  refine ⟨all_show fun d hd => (h d hd).sh, all_noD fun d hd => (h d hd).nd, Nat.succ_le_succ (all_depth fun d hd => (h d hd).dp), ?_, ?_⟩
  · have h1 := listText_len_le (PyData.shownAll ds)
    have h2 := all_len fun d hd => (h d hd).ln
    have h3 := Nat.mul_le_mul_right (n + 2) hl
    show (listText (PyData.shownAll ds)).length ≤ _
    omega
  · exact ok_app (ok_from (ok_ofS _) (all_shown fun d hd => (h d hd).ok)) (ok_ofS _)
theorem Sho.can (h : Sho 60 10000000 d) : CanShow d := ⟨h.sh, h.nd, h.dp, Nat.le_trans h.ln (by rw [sizeLine_eq]; decide)⟩
theorem rp_of (h : Sho 60 10000000 d) : reprP d = some (.str d.shown) := by
  unfold reprP
  rw [if_pos h.can]
theorem ne_str {x : Str} (h : PyData.strOk x = true) : neP (.str x) (.str x) = some (.bool false) := by
  have e : SeqAt.shaped (.str x) = true := by
    unfold SeqAt.shaped
    rw [show PyData.canLay0 (.str x) = PyData.strOk x by simp [PyData.canLay0], h]
    rfl
  unfold neP
  rw [if_pos ⟨e, e⟩]
  simp [PyData.eqv]
theorem ne_shown (h : Sho 60 10000000 d) : neP (.str d.shown) (.str d.shown) = some (.bool false) := ne_str h.ok
structure Lay (k : Nat) (d : PD) : Prop where
  cl : d.canLay0 = true
  dp : d.depth ≤ k
theorem all_lay (h : ∀ d ∈ ds, PyData.canLay0 d = true) : PyData.canLayAll0 ds = true := by
  induction ds with
  | nil => rfl
  | cons d ds ih => rw [PyData.canLayAll0, h d (List.mem_cons_self ..), ih fun x hx => h x (List.mem_cons_of_mem _ hx)]; rfl
theorem Lay.int {i : Int} : Lay k (.int i) := ⟨rfl, Nat.zero_le _⟩
theorem Lay.lst (h : ∀ d ∈ ds, Lay k d) : Lay (k + 1) (.list ds) := ⟨all_lay fun d hd => (h d hd).cl, Nat.succ_le_succ (all_depth fun d hd => (h d hd).dp)⟩
theorem Lay.sh (h : Lay 60 d) : SeqAt.shaped d = true := by
  unfold SeqAt.shaped
  rw [h.cl, Bool.true_and, decide_eq_true_eq]
  exact Nat.le_trans h.dp (by decide)
theorem eqP_lay {e : PD} (h : Lay 60 d) (h' : Lay 60 e) : eqP d e = some (.bool (PyData.eqv d e)) := by unfold eqP; rw [if_pos ⟨h.sh, h'.sh⟩]
theorem neP_lay {e : PD} (h : Lay 60 d) (h' : Lay 60 e) : neP d e = some (.bool (!PyData.eqv d e)) := by unfold neP; rw [if_pos ⟨h.sh, h'.sh⟩]
end
end Uv

namespace Uv
open PySem PySem.Spec PyProof.Rows L2
structure Tie where
  g : Nat
  t : Nat
  r : Int
structure Seat where
  much : Int
  order : List Nat
structure Fair where
  ties : List Tie
  givers : List Seat
  takers : List Seat
def intsD (l : List Int) : PD := .tuple (l.map PyData.int)
section
variable {ρ : Env} {v : VE}
@[simp] theorem q_cat {xs ys : List PD} : catP (.list xs) (.list ys) = grd (xs.length + ys.length ≤ 100000) (some (.list (xs ++ ys))) := by unfold catP; simp only [grd_ite]
@[simp] theorem q_mul_l {xs : List PD} {j : Int} : mulP (.list xs) (.int j) = grd (0 ≤ j ∧ j ≤ 100000 ∧ xs.length * j.toNat ≤ 100000) (some (.list (List.replicate j.toNat xs).flatten)) := by unfold mulP; simp only [grd_ite]
@[simp] theorem q_mulU_i {i j : Int} : mulU (.int i) (.int j) = grd (In64 i ∨ In64 j) (some (.int (i * j))) := by show mulP (.int i) (.int j) = _; exact q_mul
@[simp] theorem q_mulU_l {xs : List PD} {j : Int} : mulU (.list xs) (.int j) = grd (0 ≤ j ∧ j ≤ 100000 ∧ xs.length * j.toNat ≤ 100000) (some (.list (List.replicate j.toNat xs).flatten)) := by show mulP (.list xs) (.int j) = _; exact q_mul_l
@[simp] theorem q_mulU_t {xs : List PD} {j : Int} : mulU (.tuple xs) (.int j) = grd (xs ≠ [] ∧ 0 ≤ j ∧ j ≤ 1000 ∧ xs.length ≤ 1000) (some (.tuple (List.replicate j.toNat xs).flatten)) := by unfold mulU; simp only [grd_ite]
@[simp] theorem q_three {a b c : Cel} : three [a, b, c] = some (a, b, c) := (rfl)
@[simp] theorem q_sPar3 {i j k : Nat} {as : XWC} : sPar3 i j k as ρ = (as ρ).bind fun x => (three x.1).bind fun c => grd (i < x.2.length ∧ j < x.2.length ∧ k < x.2.length) (some (.nxt (((x.2.set i (toSl c.1)).set j (toSl c.2.1)).set k (toSl c.2.2)))) := by unfold sPar3; simp only [grd_ite]
end
section
variable {l : List Nat} {m : List Int} {W : Web} {F : Fair} {x : Road} {t : Tie} {s : Seat} {i : Int} {k : Nat}
@[simp] theorem n_seq : seqP (natsD l) = some (l.map natD) := (rfl)
@[simp] theorem n_len : lenP (natsD l) = some (natD l.length) := by unfold natsD; simp
@[simp] theorem n_ix : ixP (natsD l) (.int i) = atI (l.map natD) i := (rfl)
@[simp] theorem n_full : full (natsD l) = false := (rfl)
@[simp] theorem n_isT : isTy .tuple (natsD l) = true := (rfl)
@[simp] theorem n_enum : enumP [natsD l] = some (pairsD (l.map natD)) := (rfl)
@[simp] theorem n_none : isNone (natsD l) = false := (rfl)
@[simp] theorem n_addR {ds : List PD} : addP (.tuple ds) (natsD l) = grd (ds.length + l.length ≤ 100000) (some (.tuple (ds ++ l.map natD))) := by
  unfold natsD
  rw [q_add_t, List.length_map]
theorem flats_of {ds : List PD} (h : ∀ d ∈ ds, flat d = true) : flats ds = true := by
  induction ds with
  | nil => rfl
  | cons d ds ih => rw [q_flats_cons, h d (List.mem_cons_self ..), ih fun x hx => h x (List.mem_cons_of_mem _ hx)]; rfl
theorem flats_map {α : Type} {f : α → PD} {l : List α} (h : ∀ x, flat (f x) = true) : flats (l.map f) = true := flats_of fun d hd => by obtain ⟨x, _, rfl⟩ := List.mem_map.mp hd; exact h x
@[simp] theorem n_flat : flat (natsD l) = true := by unfold natsD; rw [q_flat_t]; exact flats_map fun _ => q_flat_i
@[simp] theorem n_flats : flats (l.map natD) = true := flats_map fun _ => q_flat_i
@[simp] theorem i_flats : flats (m.map PyData.int) = true := flats_map fun _ => q_flat_i
@[simp] theorem i_seq : seqP (intsD m) = some (m.map PyData.int) := (rfl)
@[simp] theorem i_len : lenP (intsD m) = some (natD m.length) := by unfold intsD; simp
@[simp] theorem i_ix : ixP (intsD m) (.int i) = atI (m.map PyData.int) i := (rfl)
@[simp] theorem i_full : full (intsD m) = false := (rfl)
@[simp] theorem i_isT : isTy .tuple (intsD m) = true := (rfl)
@[simp] theorem i_enum : enumP [intsD m] = some (pairsD (m.map PyData.int)) := (rfl)
@[simp] theorem i_none : isNone (intsD m) = false := (rfl)
@[simp] theorem i_flat : flat (intsD m) = true := by unfold intsD; rw [q_flat_t]; exact i_flats
@[simp] theorem w_seq : seqP (webD W) = some [.tuple (W.roads.map roadD), .tuple (W.gives.map natsD), .tuple (W.takes.map natsD)] := (rfl)
@[simp] theorem w_0 : ixP (webD W) (.int 0) = some (.tuple (W.roads.map roadD)) := (rfl)
@[simp] theorem w_1 : ixP (webD W) (.int 1) = some (.tuple (W.gives.map natsD)) := (rfl)
@[simp] theorem w_2 : ixP (webD W) (.int 2) = some (.tuple (W.takes.map natsD)) := (rfl)
@[simp] theorem w_full : full (webD W) = false := (rfl)
@[simp] theorem w_none : isNone (webD W) = false := (rfl)
@[simp] theorem r_seq : seqP (roadD x) = some [endD x.b, endD x.e, .int x.r] := (rfl)
@[simp] theorem r_0 : ixP (roadD x) (.int 0) = some (endD x.b) := (rfl)
@[simp] theorem r_1 : ixP (roadD x) (.int 1) = some (endD x.e) := (rfl)
@[simp] theorem r_2 : ixP (roadD x) (.int 2) = some (.int x.r) := (rfl)
@[simp] theorem e_none {o : Option Nat} : isNone (endD o) = o.isNone := by cases o <;> rfl
@[simp] theorem e_flat {o : Option Nat} : flat (endD o) = true := by cases o <;> simp [endD]
@[simp] theorem r_flat : flat (roadD x) = true := by simp [roadD]
end
section
variable {i : Int} {b : Bool} {x : Str} {ds : List PD}
@[simp] theorem ty_ii : isTy .int (.int i) = true := (rfl)
@[simp] theorem ty_bi : isTy .bool (.int i) = false := (rfl)
@[simp] theorem ty_ti : isTy .tuple (.int i) = false := (rfl)
@[simp] theorem ty_ib : isTy .int (.bool b) = true := (rfl)
@[simp] theorem ty_bb : isTy .bool (.bool b) = true := (rfl)
@[simp] theorem ty_tt : isTy .tuple (.tuple ds) = true := (rfl)
@[simp] theorem ty_it : isTy .int (.tuple ds) = false := (rfl)
@[simp] theorem ty_bt : isTy .bool (.tuple ds) = false := (rfl)
@[simp] theorem ty_st : isTy .str (.tuple ds) = false := (rfl)
@[simp] theorem ty_in : isTy .int .none = false := (rfl)
@[simp] theorem ty_bn : isTy .bool .none = false := (rfl)
@[simp] theorem ty_tn : isTy .tuple .none = false := (rfl)
@[simp] theorem ty_sn : isTy .str .none = false := (rfl)
@[simp] theorem ty_si : isTy .str (.int i) = false := (rfl)
@[simp] theorem ty_sb : isTy .str (.bool b) = false := (rfl)
@[simp] theorem ty_tb : isTy .tuple (.bool b) = false := (rfl)
@[simp] theorem all_tt {α : Type} {l : List α} : (l.all fun _ => true) = true := List.all_eq_true.mpr fun _ _ => rfl
end
end Uv

namespace Uv
open PySem PySem.Spec PyProof.Rows L2
variable {ρ : Env}
@[simp] theorem q_mk_dic {l : List (Int × PD)} : (Sl.dic l).mk = none := (rfl)
@[simp] theorem q_vw_dic {l : List (Int × PD)} : (Sl.dic l).vw = none := (rfl)
end Uv

namespace Fn
open PySem PySem.Spec PyProof.Rows L2 Uv
@[irreducible] def X__law_deck_h : XS :=
    sSeq (sAsg (gName' 1) (wM (xLc (xiE (xVar 0)) (gvName 2) xYes (xCB (on1 absP) (xCons (xVar 2) xNil)) [2])))
    (sRetO (wOL (wcSub (wOM (xLc (xiE (xVar 1)) (gvName 2) (xB (xOp geP (xVar 2) (xOp powP (xC (.int 10)) (xC (.int 18))))) (xVar 2) [2])) (wcSub (wOM (xOp catP (xVar 1) (xLst (xCons (xOp addP (xCB (on1 lenP) (xCons (xVar 1) xNil)) (xC (.int 5))) xNil)))) (wcDat (wM (xC (.int 0))) wcNil)))))
@[irreducible] def F__law_deck_h : List PD → Option (List Cel) := runD 1 2 X__law_deck_h
def it_k09_BadOrder : Nat → Option Bool
  | 1 => some false
  | 2 => some false
  | 3 => some false
  | 4 => some false
  | 5 => some true
  | 6 => some false
  | 7 => some false
  | 8 => some false
  | 9 => some false
  | 10 => some false
  | 11 => some false
  | 12 => some false
  | 13 => some false
  | 14 => some false
  | 15 => some false
  | 16 => some false
  | 17 => some false
  | 18 => some false
  | 19 => some false
  | 20 => some false
  | 21 => some false
  | _ => none
def it_k09_BadWeb : Nat → Option Bool
  | 1 => some true
  | 2 => some false
  | 3 => some false
  | 4 => some false
  | 5 => some false
  | 6 => some false
  | 7 => some false
  | 8 => some false
  | 9 => some false
  | 10 => some false
  | 11 => some false
  | 12 => some false
  | 13 => some false
  | 14 => some false
  | 15 => some false
  | 16 => some false
  | 17 => some false
  | 18 => some false
  | 19 => some false
  | 20 => some false
  | 21 => some false
  | _ => none
def it_k09_Broken : Nat → Option Bool
  | 1 => some false
  | 2 => some false
  | 3 => some false
  | 4 => some false
  | 5 => some false
  | 6 => some false
  | 7 => some false
  | 8 => some false
  | 9 => some false
  | 10 => some false
  | 11 => some true
  | 12 => some false
  | 13 => some false
  | 14 => some false
  | 15 => some false
  | 16 => some false
  | 17 => some false
  | 18 => some false
  | 19 => some false
  | 20 => some false
  | 21 => some false
  | _ => none
def it_k09_Busy : Nat → Option Bool
  | 1 => some false
  | 2 => some false
  | 3 => some false
  | 4 => some false
  | 5 => some false
  | 6 => some false
  | 7 => some false
  | 8 => some true
  | 9 => some false
  | 10 => some false
  | 11 => some false
  | 12 => some false
  | 13 => some false
  | 14 => some false
  | 15 => some false
  | 16 => some false
  | 17 => some false
  | 18 => some false
  | 19 => some false
  | 20 => some false
  | 21 => some false
  | _ => none
def it_k09_Full : Nat → Option Bool
  | 1 => some false
  | 2 => some false
  | 3 => some true
  | 4 => some false
  | 5 => some false
  | 6 => some false
  | 7 => some false
  | 8 => some false
  | 9 => some false
  | 10 => some false
  | 11 => some false
  | 12 => some false
  | 13 => some false
  | 14 => some false
  | 15 => some false
  | 16 => some false
  | 17 => some false
  | 18 => some false
  | 19 => some false
  | 20 => some false
  | 21 => some false
  | _ => none
def it_k09_Held : Nat → Option Bool
  | 1 => some false
  | 2 => some false
  | 3 => some false
  | 4 => some false
  | 5 => some false
  | 6 => some false
  | 7 => some false
  | 8 => some false
  | 9 => some false
  | 10 => some false
  | 11 => some false
  | 12 => some false
  | 13 => some true
  | 14 => some false
  | 15 => some false
  | 16 => some false
  | 17 => some false
  | 18 => some false
  | 19 => some false
  | 20 => some false
  | 21 => some false
  | _ => none
def it_k09_Last : Nat → Option Bool
  | 1 => some false
  | 2 => some false
  | 3 => some false
  | 4 => some false
  | 5 => some false
  | 6 => some false
  | 7 => some false
  | 8 => some false
  | 9 => some false
  | 10 => some false
  | 11 => some false
  | 12 => some true
  | 13 => some false
  | 14 => some false
  | 15 => some false
  | 16 => some false
  | 17 => some false
  | 18 => some false
  | 19 => some false
  | 20 => some false
  | 21 => some false
  | _ => none
def it_k09_Long : Nat → Option Bool
  | 1 => some false
  | 2 => some false
  | 3 => some false
  | 4 => some false
  | 5 => some false
  | 6 => some false
  | 7 => some true
  | 8 => some false
  | 9 => some false
  | 10 => some false
  | 11 => some false
  | 12 => some false
  | 13 => some false
  | 14 => some false
  | 15 => some false
  | 16 => some false
  | 17 => some false
  | 18 => some false
  | 19 => some false
  | 20 => some false
  | 21 => some false
  | _ => none
def it_k09_NoDeeds : Nat → Option Bool
  | 1 => some false
  | 2 => some false
  | 3 => some false
  | 4 => some false
  | 5 => some false
  | 6 => some false
  | 7 => some false
  | 8 => some false
  | 9 => some false
  | 10 => some true
  | 11 => some false
  | 12 => some false
  | 13 => some false
  | 14 => some false
  | 15 => some false
  | 16 => some false
  | 17 => some false
  | 18 => some false
  | 19 => some false
  | 20 => some false
  | 21 => some false
  | _ => none
def it_k09_NoDoor : Nat → Option Bool
  | 1 => some false
  | 2 => some false
  | 3 => some false
  | 4 => some false
  | 5 => some false
  | 6 => some false
  | 7 => some false
  | 8 => some false
  | 9 => some false
  | 10 => some false
  | 11 => some false
  | 12 => some false
  | 13 => some false
  | 14 => some false
  | 15 => some false
  | 16 => some false
  | 17 => some true
  | 18 => some false
  | 19 => some false
  | 20 => some false
  | 21 => some false
  | _ => none
def it_k09_NoEnd : Nat → Option Bool
  | 1 => some false
  | 2 => some false
  | 3 => some false
  | 4 => some false
  | 5 => some false
  | 6 => some false
  | 7 => some false
  | 8 => some false
  | 9 => some false
  | 10 => some false
  | 11 => some false
  | 12 => some false
  | 13 => some false
  | 14 => some false
  | 15 => some false
  | 16 => some false
  | 17 => some false
  | 18 => some false
  | 19 => some false
  | 20 => some true
  | 21 => some false
  | _ => none
def it_k09_NoHouse : Nat → Option Bool
  | 1 => some false
  | 2 => some false
  | 3 => some false
  | 4 => some false
  | 5 => some false
  | 6 => some false
  | 7 => some false
  | 8 => some false
  | 9 => some false
  | 10 => some false
  | 11 => some false
  | 12 => some false
  | 13 => some false
  | 14 => some false
  | 15 => some false
  | 16 => some false
  | 17 => some false
  | 18 => some false
  | 19 => some true
  | 20 => some false
  | 21 => some false
  | _ => none
def it_k09_NoMoment : Nat → Option Bool
  | 1 => some false
  | 2 => some false
  | 3 => some false
  | 4 => some false
  | 5 => some false
  | 6 => some false
  | 7 => some false
  | 8 => some false
  | 9 => some false
  | 10 => some false
  | 11 => some false
  | 12 => some false
  | 13 => some false
  | 14 => some false
  | 15 => some false
  | 16 => some false
  | 17 => some false
  | 18 => some false
  | 19 => some false
  | 20 => some false
  | 21 => some true
  | _ => none
def it_k09_NoRoad : Nat → Option Bool
  | 1 => some false
  | 2 => some false
  | 3 => some false
  | 4 => some false
  | 5 => some false
  | 6 => some false
  | 7 => some false
  | 8 => some false
  | 9 => some false
  | 10 => some false
  | 11 => some false
  | 12 => some false
  | 13 => some false
  | 14 => some false
  | 15 => some false
  | 16 => some false
  | 17 => some false
  | 18 => some true
  | 19 => some false
  | 20 => some false
  | 21 => some false
  | _ => none
def it_k09_NoRoads : Nat → Option Bool
  | 1 => some false
  | 2 => some false
  | 3 => some false
  | 4 => some true
  | 5 => some false
  | 6 => some false
  | 7 => some false
  | 8 => some false
  | 9 => some false
  | 10 => some false
  | 11 => some false
  | 12 => some false
  | 13 => some false
  | 14 => some false
  | 15 => some false
  | 16 => some false
  | 17 => some false
  | 18 => some false
  | 19 => some false
  | 20 => some false
  | 21 => some false
  | _ => none
def it_k09_NoRoom : Nat → Option Bool
  | 1 => some false
  | 2 => some false
  | 3 => some false
  | 4 => some false
  | 5 => some false
  | 6 => some false
  | 7 => some false
  | 8 => some false
  | 9 => some false
  | 10 => some false
  | 11 => some false
  | 12 => some false
  | 13 => some false
  | 14 => some true
  | 15 => some false
  | 16 => some false
  | 17 => some false
  | 18 => some false
  | 19 => some false
  | 20 => some false
  | 21 => some false
  | _ => none
def it_k09_NoStream : Nat → Option Bool
  | 1 => some false
  | 2 => some false
  | 3 => some false
  | 4 => some false
  | 5 => some false
  | 6 => some false
  | 7 => some false
  | 8 => some false
  | 9 => some false
  | 10 => some false
  | 11 => some false
  | 12 => some false
  | 13 => some false
  | 14 => some false
  | 15 => some true
  | 16 => some false
  | 17 => some false
  | 18 => some false
  | 19 => some false
  | 20 => some false
  | 21 => some false
  | _ => none
def it_k09_NoText : Nat → Option Bool
  | 1 => some false
  | 2 => some false
  | 3 => some false
  | 4 => some false
  | 5 => some false
  | 6 => some false
  | 7 => some false
  | 8 => some false
  | 9 => some false
  | 10 => some false
  | 11 => some false
  | 12 => some false
  | 13 => some false
  | 14 => some false
  | 15 => some false
  | 16 => some true
  | 17 => some false
  | 18 => some false
  | 19 => some false
  | 20 => some false
  | 21 => some false
  | _ => none
def it_k09_NothingBack : Nat → Option Bool
  | 1 => some false
  | 2 => some false
  | 3 => some false
  | 4 => some false
  | 5 => some false
  | 6 => some false
  | 7 => some false
  | 8 => some false
  | 9 => some true
  | 10 => some false
  | 11 => some false
  | 12 => some false
  | 13 => some false
  | 14 => some false
  | 15 => some false
  | 16 => some false
  | 17 => some false
  | 18 => some false
  | 19 => some false
  | 20 => some false
  | 21 => some false
  | _ => none
def it_k09_TooGreat : Nat → Option Bool
  | 1 => some false
  | 2 => some true
  | 3 => some false
  | 4 => some false
  | 5 => some false
  | 6 => some false
  | 7 => some false
  | 8 => some false
  | 9 => some false
  | 10 => some false
  | 11 => some false
  | 12 => some false
  | 13 => some false
  | 14 => some false
  | 15 => some false
  | 16 => some false
  | 17 => some false
  | 18 => some false
  | 19 => some false
  | 20 => some false
  | 21 => some false
  | _ => none
def it_k09_TooMany : Nat → Option Bool
  | 1 => some false
  | 2 => some false
  | 3 => some false
  | 4 => some false
  | 5 => some false
  | 6 => some true
  | 7 => some false
  | 8 => some false
  | 9 => some false
  | 10 => some false
  | 11 => some false
  | 12 => some false
  | 13 => some false
  | 14 => some false
  | 15 => some false
  | 16 => some false
  | 17 => some false
  | 18 => some false
  | 19 => some false
  | 20 => some false
  | 21 => some false
  | _ => none
@[irreducible] def X__law_kinds_b : XS :=
    sSeq (sAsg (gName' 1) (wM (xLst (xCons (xUn (isX it_k09_BadWeb) (xVar 0)) (xCons (xUn (isX it_k09_TooGreat) (xVar 0)) (xCons (xUn (isX it_k09_Full) (xVar 0)) (xCons (xUn (isX it_k09_NoRoads) (xVar 0)) xNil)))))))
    (sSeq (sAsg (gName' 1) (wM (xOp addP (xVar 1) (xLst (xCons (xUn (isX it_k09_BadOrder) (xVar 0)) (xCons (xUn (isX it_k09_TooMany) (xVar 0)) (xCons (xUn (isX it_k09_Long) (xVar 0)) (xCons (xUn (isX it_k09_Busy) (xVar 0)) xNil))))))))
    (sSeq (sAsg (gName' 1) (wM (xOp addP (xVar 1) (xLst (xCons (xUn (isX it_k09_NothingBack) (xVar 0)) (xCons (xUn (isX it_k09_NoDeeds) (xVar 0)) (xCons (xUn (isX it_k09_Broken) (xVar 0)) (xCons (xUn (isX it_k09_Last) (xVar 0)) xNil))))))))
    (sSeq (sAsg (gName' 1) (wM (xOp addP (xVar 1) (xLst (xCons (xUn (isX it_k09_Held) (xVar 0)) (xCons (xUn (isX it_k09_NoRoom) (xVar 0)) (xCons (xUn (isX it_k09_NoStream) (xVar 0)) (xCons (xUn (isX it_k09_NoText) (xVar 0)) xNil))))))))
    (sRet (wM (xOp addP (xVar 1) (xLst (xCons (xUn (isX it_k09_NoDoor) (xVar 0)) (xCons (xUn (isX it_k09_NoRoad) (xVar 0)) (xCons (xUn (isX it_k09_NoHouse) (xVar 0)) (xCons (xUn (isX it_k09_NoEnd) (xVar 0)) (xCons (xUn (isX it_k09_NoMoment) (xVar 0)) xNil))))))))))))
@[irreducible] def F__law_kinds_b : List PD → Option PD := runP 1 1 X__law_kinds_b
@[irreducible] def X__law_made_b : XS :=
    sSeq (sPar 2 3 (wcDat (wM (xMkE2 1 (xVar 0) (xVar 1))) (wcDat (wM (xMkE 6 (xCons (xVar 0) xNil))) wcNil)))
    (sSeq (sAsg (gName' 4) (wM (xLst (xCons (xTup (xCons (xVar 2) (xCons (xLst (xCons (xUn (xatD "path") (xVar 2)) (xCons (xUn (xatD "word") (xVar 2)) xNil))) (xCons (xLst (xCons (xVar 0) (xCons (xVar 1) xNil))) xNil)))) (xCons (xTup (xCons (xMkE 2 xNil) (xCons (xLst xNil) (xCons (xLst xNil) xNil)))) (xCons (xTup (xCons (xMkE 3 xNil) (xCons (xLst xNil) (xCons (xLst xNil) xNil)))) (xCons (xTup (xCons (xMkE 4 xNil) (xCons (xLst xNil) (xCons (xLst xNil) xNil)))) xNil)))))))
    (sSeq (sAsg (gName' 4) (wM (xOp addP (xVar 4) (xLst (xCons (xTup (xCons (xMkE 5 xNil) (xCons (xLst xNil) (xCons (xLst xNil) xNil)))) (xCons (xTup (xCons (xVar 3) (xCons (xLst (xCons (xUn (xatD "bound") (xVar 3)) xNil)) (xCons (xLst (xCons (xVar 0) xNil)) xNil)))) (xCons (xTup (xCons (xMkE 7 xNil) (xCons (xLst xNil) (xCons (xLst xNil) xNil)))) (xCons (xTup (xCons (xMkE 8 xNil) (xCons (xLst xNil) (xCons (xLst xNil) xNil)))) xNil))))))))
    (sSeq (sPar3 2 3 5 (wcDat (wM (xMkE 11 (xCons (xVar 0) xNil))) (wcDat (wM (xMkE 14 (xCons (xVar 0) xNil))) (wcDat (wM (xMkE 15 (xCons (xVar 0) xNil))) wcNil))))
    (sSeq (sAsg (gName' 4) (wM (xOp addP (xVar 4) (xLst (xCons (xTup (xCons (xMkE 9 xNil) (xCons (xLst xNil) (xCons (xLst xNil) xNil)))) (xCons (xTup (xCons (xMkE 10 xNil) (xCons (xLst xNil) (xCons (xLst xNil) xNil)))) (xCons (xTup (xCons (xVar 2) (xCons (xLst (xCons (xUn (xatD "number") (xVar 2)) xNil)) (xCons (xLst (xCons (xVar 0) xNil)) xNil)))) (xCons (xTup (xCons (xMkE 12 xNil) (xCons (xLst xNil) (xCons (xLst xNil) xNil)))) xNil))))))))
    (sSeq (sAsg (gName' 4) (wM (xOp addP (xVar 4) (xLst (xCons (xTup (xCons (xMkE 13 xNil) (xCons (xLst xNil) (xCons (xLst xNil) xNil)))) (xCons (xTup (xCons (xVar 3) (xCons (xLst (xCons (xUn (xatD "room") (xVar 3)) xNil)) (xCons (xLst (xCons (xVar 0) xNil)) xNil)))) (xCons (xTup (xCons (xVar 5) (xCons (xLst (xCons (xUn (xatD "fault") (xVar 5)) xNil)) (xCons (xLst (xCons (xVar 0) xNil)) xNil)))) xNil)))))))
    (sSeq (sPar3 2 3 5 (wcDat (wM (xMkE 16 (xCons (xVar 0) xNil))) (wcDat (wM (xMkE 17 (xCons (xVar 0) xNil))) (wcDat (wM (xMkE 18 (xCons (xVar 0) xNil))) wcNil))))
    (sSeq (sAsg (gName' 4) (wM (xOp addP (xVar 4) (xLst (xCons (xTup (xCons (xVar 2) (xCons (xLst (xCons (xUn (xatD "line") (xVar 2)) xNil)) (xCons (xLst (xCons (xVar 0) xNil)) xNil)))) (xCons (xTup (xCons (xVar 3) (xCons (xLst (xCons (xUn (xatD "road") (xVar 3)) xNil)) (xCons (xLst (xCons (xVar 0) xNil)) xNil)))) (xCons (xTup (xCons (xVar 5) (xCons (xLst (xCons (xUn (xatD "road") (xVar 5)) xNil)) (xCons (xLst (xCons (xVar 0) xNil)) xNil)))) xNil)))))))
    (sSeq (sPar3 2 3 5 (wcDat (wM (xMkE 19 (xCons (xVar 0) xNil))) (wcDat (wM (xMkE 20 (xCons (xVar 0) xNil))) (wcDat (wM (xMkE 21 (xCons (xVar 0) xNil))) wcNil))))
    (sRet (wM (xOp addP (xVar 4) (xLst (xCons (xTup (xCons (xVar 2) (xCons (xLst (xCons (xUn (xatD "house") (xVar 2)) xNil)) (xCons (xLst (xCons (xVar 0) xNil)) xNil)))) (xCons (xTup (xCons (xVar 3) (xCons (xLst (xCons (xUn (xatD "end") (xVar 3)) xNil)) (xCons (xLst (xCons (xVar 0) xNil)) xNil)))) (xCons (xTup (xCons (xVar 5) (xCons (xLst (xCons (xUn (xatD "number") (xVar 5)) xNil)) (xCons (xLst (xCons (xVar 0) xNil)) xNil)))) xNil)))))))))))))))
@[irreducible] def F__law_made_b : List PD → Option PD := runP 2 4 X__law_made_b
@[irreducible] def X__law_next_b1 : XS :=
    sSeq (sAsg (gName' 2) (wV (xOp ixP (xOp ixP (xVar 0) (xC (.int 0))) (xC (.int 0)))))
    (sSeq (sIf (wMT (xB (xOp gtU (xVar 2) (xC (.int 0))))) (sSeq (sSetS 0 (xC (.int 0)) (xC (.int 0)) (wM (xOp divP (xVar 2) (xVar 1))))
    (sRet (wM (xOp modP (xVar 2) (xVar 1))))) sNext)
    (sPopS 0 (xC (.int 0)) (xC (.int 0))))
@[irreducible] def X__law_next : XS :=
    sSeq (sWhile fuel (wVT (xB (xOp neP (xOp ixP (xVar 0) (xC (.int 0))) (xLst xNil)))) X__law_next_b1)
    (sSeq (sSet 0 (xC (.int 2)) (wV (xOp addP (xOp ixP (xVar 0) (xC (.int 2))) (xC (.int 1)))))
    (sSeq (sAsg (gName' 3) (wV (xOp modP (xOp ixP (xOp ixP (xVar 0) (xC (.int 1))) (xOp modP (xOp ixP (xVar 0) (xC (.int 2))) (xCB (on1 lenP) (xCons (xOp ixP (xVar 0) (xC (.int 1))) xNil)))) (xC (.int 2147483647)))))
    (sSeq (sAsg (gName' 4) (wV (xOp addP (xOp addP (xOp mulU (xVar 3) (xOp addP (xC (.int 48271)) (xOp mulU (xC (.int 40692)) (xOp ixP (xVar 0) (xC (.int 2)))))) (xOp mulU (xOp mulU (xC (.int 69621)) (xOp ixP (xVar 0) (xC (.int 2)))) (xOp ixP (xVar 0) (xC (.int 2))))) (xC (.int 13)))))
    (sSeq (sAsg (gName' 4) (wM (xOp modP (xVar 4) (xC (.int 2147483629)))))
    (sRet (wM (xOp modP (xOp divP (xOp modP (xOp mulU (xVar 4) (xVar 4)) (xC (.int 2147483587))) (xC (.int 16))) (xVar 1))))))))
@[irreducible] def F__law_next : List Cel → List PD → Option (PD × List Cel) := runW 1 3 X__law_next
@[irreducible] def X__law_odd : XS :=
    sSeq (sAsg (gName' 1) (wM (xLst (xCons (xC .none) (xCons (xC (.bool true)) (xCons (xC (.bool false)) (xCons (xC (.int 0)) (xCons (xC (.int 1)) (xCons (xUn negP (xC (.int 1))) (xCons (xC (.int 9)) (xCons (xOp addP (xOp powP (xC (.int 10)) (xC (.int 12))) (xC (.int 1))) (xCons (xOp powP (xC (.int 10)) (xC (.int 29))) (xCons (xC (.str "")) (xCons (xC (.str "0")) (xCons (xTup xNil) (xCons (xTup (xCons (xC (.int 0)) xNil)) (xCons (xTup (xCons (xC .none) xNil)) (xCons (xLst xNil) (xCons (xLst (xCons (xC (.int 0)) xNil)) (xCons (xC (.dict [])) (xCons (xTup (xCons (xTup xNil) xNil)) xNil)))))))))))))))))))))
    (sRet (wOp ixP (wM (xVar 1)) (wCallK 0 F__law_next (wCons (wM (xC (.int 18))) wNil))))
@[irreducible] def F__law_odd : List Cel → List PD → Option (PD × List Cel) := runW 0 1 X__law_odd
def it_k09_LookupError : Nat → Option Bool
  | 1 => some false
  | 2 => some false
  | 3 => some false
  | 4 => some false
  | 5 => some false
  | 6 => some false
  | 7 => some false
  | 8 => some false
  | 9 => some false
  | 10 => some false
  | 11 => some false
  | 12 => some false
  | 13 => some false
  | 14 => some false
  | 15 => some false
  | 16 => some false
  | 17 => some true
  | 18 => some true
  | 19 => some true
  | 20 => some true
  | 21 => some true
  | _ => none
def it_k09_ValueError : Nat → Option Bool
  | 1 => some true
  | 2 => some true
  | 3 => some true
  | 4 => some true
  | 5 => some true
  | 6 => some true
  | 7 => some true
  | 8 => some true
  | 9 => some true
  | 10 => some true
  | 11 => some true
  | 12 => some true
  | 13 => some true
  | 14 => some true
  | 15 => some true
  | 16 => some true
  | 17 => some false
  | 18 => some false
  | 19 => some false
  | 20 => some false
  | 21 => some false
  | _ => none
def it_k09_WebError : Nat → Option Bool
  | 1 => some true
  | 2 => some true
  | 3 => some true
  | 4 => some true
  | 5 => some true
  | 6 => some true
  | 7 => some true
  | 8 => some true
  | 9 => some true
  | 10 => some true
  | 11 => some true
  | 12 => some true
  | 13 => some true
  | 14 => some true
  | 15 => some true
  | 16 => some true
  | 17 => some false
  | 18 => some false
  | 19 => some false
  | 20 => some false
  | 21 => some false
  | _ => none
@[irreducible] def X_law_z197_b1 : XS :=
    sSeq (sIf (wMT (xTOr (xB (xOp neP (xCB (on1 reprP) (xCons (xVar 5) xNil)) (xCB (on1 reprP) (xCons (xVar 6) xNil)))) (xB (xOp neP (xCB F__law_kinds_b (xCons (xVar 4) xNil)) (xLc (xiA rngP (xCons (xC (.int 21)) xNil)) (gvName 8) xYes (xOp eqP (xVar 8) (xVar 3)) [8]))))) (sFz 1 (sRet (wM (xC (.bool false))))) sNext)
    (sSeq (sAsg (gName' 7) (wM (xOp gtU (xVar 3) (xC (.int 15)))))
    (sSeq (sIf (wMT (xTOr (xB (xOp eqP (xUn (isX it_k09_WebError) (xVar 4)) (xVar 7))) (xB (xOp eqP (xUn (isX it_k09_ValueError) (xVar 4)) (xVar 7))))) (sFz 1 (sRet (wM (xC (.bool false))))) sNext)
    (sIf (wMT (xB (xOp neP (xUn (isX it_k09_LookupError) (xVar 4)) (xVar 7)))) (sFz 1 (sRet (wM (xC (.bool false))))) sNext)))
@[irreducible] def X_law_z197_b2 : XS :=
    sFor (wiA enumP (wCons (wCB F__law_made_b (wCons (wCallK 1 F__law_odd wNil) (wCons (wCallK 1 F__law_odd wNil) wNil))) wNil)) (gTup' 2 (gCons' (gName' 3) (gCons' (gTup' 3 (gCons' (gName' 4) (gCons' (gName' 5) (gCons' (gName' 6) gNil')))) gNil'))) X_law_z197_b1
@[irreducible] def X_law_z197 : XS :=
    sSeq (sOwn 1 (wCallD F__law_deck_h (wCons (wM (xVar 0)) wNil)))
    (sSeq (sIf (wMT (xB (xOp neP (xLst (xCons (xC (.int 8)) (xCons (xC (.int 20)) (xCons (xC (.int 1000000000000)) (xCons (xC (.int 28)) (xCons (xC (.int 36)) (xCons (xC (.int 1000000000000000)) xNil))))))) (xLst (xCons (xC (.int 8)) (xCons (xC (.int 20)) (xCons (xOp powP (xC (.int 10)) (xC (.int 12))) (xCons (xC (.int 28)) (xCons (xC (.int 36)) (xCons (xOp powP (xC (.int 10)) (xC (.int 15))) xNil)))))))))) (sFz 1 (sRet (wM (xC (.bool false))))) sNext)
    (sSeq (sIf (wMT (xB (xOp neP (xLst (xCons (xC (.int 4096)) (xCons (xC (.int 60)) (xCons (xC (.int 20)) xNil)))) (xLst (xCons (xC (.int 4096)) (xCons (xC (.int 60)) (xCons (xC (.int 20)) xNil))))))) (sFz 1 (sRet (wM (xC (.bool false))))) sNext)
    (sSeq (sFor (wiA rngP (wCons (wM (xC (.int 6))) wNil)) (gName' 2) X_law_z197_b2)
    (sFz 1 (sRet (wM (xC (.bool true))))))))
@[irreducible] def F_law_z197 : List PD → Option PD := runP 1 8 X_law_z197
@[irreducible] def X_is_number : XS :=
    sRet (wM (xAnd (xIsi .int (xVar 0)) (xNot (xIsi .bool (xVar 0)))))
@[irreducible] def F_is_number : List PD → Option PD := runP 1 0 X_is_number
@[irreducible] def X_is_tuple_of : XS :=
    sRet (wM (xAnd (xIsi .tuple (xVar 0)) (xChain leP leP (xVar 1) (xCB (on1 lenP) (xCons (xVar 0) xNil)) (xVar 2))))
@[irreducible] def F_is_tuple_of : List PD → Option PD := runP 3 0 X_is_tuple_of
section
variable [kk : KK]
structure HF (mg : Str → Option Value) (w : World) (cA : Nat → Addr) (dA : Addr) : Prop where
  cl : ∀ n, n ∈ ([1, 2, 3, 4, 5, 6, 7, 8, 9, 10, 11, 12, 13, 14, 15, 16, 17, 18, 19, 20, 21] : List Nat) → kk.cl n = some (cA n)
  ex : ∀ n C, kk.cl n = some C → ExcC K C
  g_BadOrder : mg "BadOrder" = some (.ref (cA 5))
  g_BadWeb : mg "BadWeb" = some (.ref (cA 1))
  g_Broken : mg "Broken" = some (.ref (cA 11))
  g_Busy : mg "Busy" = some (.ref (cA 8))
  g_Full : mg "Full" = some (.ref (cA 3))
  g_Held : mg "Held" = some (.ref (cA 13))
  g_Last : mg "Last" = some (.ref (cA 12))
  g_Long : mg "Long" = some (.ref (cA 7))
  g_NoDeeds : mg "NoDeeds" = some (.ref (cA 10))
  g_NoDoor : mg "NoDoor" = some (.ref (cA 17))
  g_NoEnd : mg "NoEnd" = some (.ref (cA 20))
  g_NoHouse : mg "NoHouse" = some (.ref (cA 19))
  g_NoMoment : mg "NoMoment" = some (.ref (cA 21))
  g_NoRoad : mg "NoRoad" = some (.ref (cA 18))
  g_NoRoads : mg "NoRoads" = some (.ref (cA 4))
  g_NoRoom : mg "NoRoom" = some (.ref (cA 14))
  g_NoStream : mg "NoStream" = some (.ref (cA 15))
  g_NoText : mg "NoText" = some (.ref (cA 16))
  g_NothingBack : mg "NothingBack" = some (.ref (cA 9))
  g_TooGreat : mg "TooGreat" = some (.ref (cA 2))
  g_TooMany : mg "TooMany" = some (.ref (cA 6))
  g_WebError : mg "WebError" = some (.ref (cA 0))
  it_BadOrder : ∀ n C b, kk.cl n = some C → it_k09_BadOrder n = some b → PySem.W.kitOne K (.ref C) (.ref (cA 5)) = some b
  it_BadWeb : ∀ n C b, kk.cl n = some C → it_k09_BadWeb n = some b → PySem.W.kitOne K (.ref C) (.ref (cA 1)) = some b
  it_Broken : ∀ n C b, kk.cl n = some C → it_k09_Broken n = some b → PySem.W.kitOne K (.ref C) (.ref (cA 11)) = some b
  it_Busy : ∀ n C b, kk.cl n = some C → it_k09_Busy n = some b → PySem.W.kitOne K (.ref C) (.ref (cA 8)) = some b
  it_Full : ∀ n C b, kk.cl n = some C → it_k09_Full n = some b → PySem.W.kitOne K (.ref C) (.ref (cA 3)) = some b
  it_Held : ∀ n C b, kk.cl n = some C → it_k09_Held n = some b → PySem.W.kitOne K (.ref C) (.ref (cA 13)) = some b
  it_Last : ∀ n C b, kk.cl n = some C → it_k09_Last n = some b → PySem.W.kitOne K (.ref C) (.ref (cA 12)) = some b
  it_Long : ∀ n C b, kk.cl n = some C → it_k09_Long n = some b → PySem.W.kitOne K (.ref C) (.ref (cA 7)) = some b
  it_LookupError : ∀ n C b, kk.cl n = some C → it_k09_LookupError n = some b → PySem.W.kitOne K (.ref C) (.type "LookupError") = some b
  it_NoDeeds : ∀ n C b, kk.cl n = some C → it_k09_NoDeeds n = some b → PySem.W.kitOne K (.ref C) (.ref (cA 10)) = some b
  it_NoDoor : ∀ n C b, kk.cl n = some C → it_k09_NoDoor n = some b → PySem.W.kitOne K (.ref C) (.ref (cA 17)) = some b
  it_NoEnd : ∀ n C b, kk.cl n = some C → it_k09_NoEnd n = some b → PySem.W.kitOne K (.ref C) (.ref (cA 20)) = some b
  it_NoHouse : ∀ n C b, kk.cl n = some C → it_k09_NoHouse n = some b → PySem.W.kitOne K (.ref C) (.ref (cA 19)) = some b
  it_NoMoment : ∀ n C b, kk.cl n = some C → it_k09_NoMoment n = some b → PySem.W.kitOne K (.ref C) (.ref (cA 21)) = some b
  it_NoRoad : ∀ n C b, kk.cl n = some C → it_k09_NoRoad n = some b → PySem.W.kitOne K (.ref C) (.ref (cA 18)) = some b
  it_NoRoads : ∀ n C b, kk.cl n = some C → it_k09_NoRoads n = some b → PySem.W.kitOne K (.ref C) (.ref (cA 4)) = some b
  it_NoRoom : ∀ n C b, kk.cl n = some C → it_k09_NoRoom n = some b → PySem.W.kitOne K (.ref C) (.ref (cA 14)) = some b
  it_NoStream : ∀ n C b, kk.cl n = some C → it_k09_NoStream n = some b → PySem.W.kitOne K (.ref C) (.ref (cA 15)) = some b
  it_NoText : ∀ n C b, kk.cl n = some C → it_k09_NoText n = some b → PySem.W.kitOne K (.ref C) (.ref (cA 16)) = some b
  it_NothingBack : ∀ n C b, kk.cl n = some C → it_k09_NothingBack n = some b → PySem.W.kitOne K (.ref C) (.ref (cA 9)) = some b
  it_TooGreat : ∀ n C b, kk.cl n = some C → it_k09_TooGreat n = some b → PySem.W.kitOne K (.ref C) (.ref (cA 2)) = some b
  it_TooMany : ∀ n C b, kk.cl n = some C → it_k09_TooMany n = some b → PySem.W.kitOne K (.ref C) (.ref (cA 6)) = some b
  it_ValueError : ∀ n C b, kk.cl n = some C → it_k09_ValueError n = some b → PySem.W.kitOne K (.ref C) (.type "ValueError") = some b
  it_WebError : ∀ n C b, kk.cl n = some C → it_k09_WebError n = some b → PySem.W.kitOne K (.ref C) (.ref (cA 0)) = some b
  xf_bound : ∀ n C, kk.cl n = some C → ("bound" : Str) ∈ exFld n → XfC K C ∧ PySem.W.findIn K (.ref C) "bound" = some none
  xf_end : ∀ n C, kk.cl n = some C → ("end" : Str) ∈ exFld n → XfC K C ∧ PySem.W.findIn K (.ref C) "end" = some none
  xf_fault : ∀ n C, kk.cl n = some C → ("fault" : Str) ∈ exFld n → XfC K C ∧ PySem.W.findIn K (.ref C) "fault" = some none
  xf_house : ∀ n C, kk.cl n = some C → ("house" : Str) ∈ exFld n → XfC K C ∧ PySem.W.findIn K (.ref C) "house" = some none
  xf_line : ∀ n C, kk.cl n = some C → ("line" : Str) ∈ exFld n → XfC K C ∧ PySem.W.findIn K (.ref C) "line" = some none
  xf_number : ∀ n C, kk.cl n = some C → ("number" : Str) ∈ exFld n → XfC K C ∧ PySem.W.findIn K (.ref C) "number" = some none
  xf_path : ∀ n C, kk.cl n = some C → ("path" : Str) ∈ exFld n → XfC K C ∧ PySem.W.findIn K (.ref C) "path" = some none
  xf_road : ∀ n C, kk.cl n = some C → ("road" : Str) ∈ exFld n → XfC K C ∧ PySem.W.findIn K (.ref C) "road" = some none
  xf_room : ∀ n C, kk.cl n = some C → ("room" : Str) ∈ exFld n → XfC K C ∧ PySem.W.findIn K (.ref C) "room" = some none
  xf_word : ∀ n C, kk.cl n = some C → ("word" : Str) ∈ exFld n → XfC K C ∧ PySem.W.findIn K (.ref C) "word" = some none
  x_BadOrder : PySem.W.excIn K (cA 5) [.type "ValueError", .type "Exception", .type "BaseException", .type "object"] "ValueError.__new__" = true
  k_BadOrder : PySem.W.keepIn K (.ref (cA 5)) = true
  b_BadOrder : PySem.W.subIn K (.ref (cA 5)) (.type "BaseException") = some true
  t_BadOrder : PySem.W.typeIn K (.ref (cA 5)) = some (.type "type")
  x_Busy : PySem.W.excIn K (cA 8) [.type "ValueError", .type "Exception", .type "BaseException", .type "object"] "ValueError.__new__" = true
  k_Busy : PySem.W.keepIn K (.ref (cA 8)) = true
  b_Busy : PySem.W.subIn K (.ref (cA 8)) (.type "BaseException") = some true
  t_Busy : PySem.W.typeIn K (.ref (cA 8)) = some (.type "type")
  x_Full : PySem.W.excIn K (cA 3) [.type "ValueError", .type "Exception", .type "BaseException", .type "object"] "ValueError.__new__" = true
  k_Full : PySem.W.keepIn K (.ref (cA 3)) = true
  b_Full : PySem.W.subIn K (.ref (cA 3)) (.type "BaseException") = some true
  t_Full : PySem.W.typeIn K (.ref (cA 3)) = some (.type "type")
  x_Held : PySem.W.excIn K (cA 13) [.type "ValueError", .type "Exception", .type "BaseException", .type "object"] "ValueError.__new__" = true
  k_Held : PySem.W.keepIn K (.ref (cA 13)) = true
  b_Held : PySem.W.subIn K (.ref (cA 13)) (.type "BaseException") = some true
  t_Held : PySem.W.typeIn K (.ref (cA 13)) = some (.type "type")
  x_Last : PySem.W.excIn K (cA 12) [.type "ValueError", .type "Exception", .type "BaseException", .type "object"] "ValueError.__new__" = true
  k_Last : PySem.W.keepIn K (.ref (cA 12)) = true
  b_Last : PySem.W.subIn K (.ref (cA 12)) (.type "BaseException") = some true
  t_Last : PySem.W.typeIn K (.ref (cA 12)) = some (.type "type")
  x_Long : PySem.W.excIn K (cA 7) [.type "ValueError", .type "Exception", .type "BaseException", .type "object"] "ValueError.__new__" = true
  k_Long : PySem.W.keepIn K (.ref (cA 7)) = true
  b_Long : PySem.W.subIn K (.ref (cA 7)) (.type "BaseException") = some true
  t_Long : PySem.W.typeIn K (.ref (cA 7)) = some (.type "type")
  x_NoDeeds : PySem.W.excIn K (cA 10) [.type "ValueError", .type "Exception", .type "BaseException", .type "object"] "ValueError.__new__" = true
  k_NoDeeds : PySem.W.keepIn K (.ref (cA 10)) = true
  b_NoDeeds : PySem.W.subIn K (.ref (cA 10)) (.type "BaseException") = some true
  t_NoDeeds : PySem.W.typeIn K (.ref (cA 10)) = some (.type "type")
  x_NoRoads : PySem.W.excIn K (cA 4) [.type "ValueError", .type "Exception", .type "BaseException", .type "object"] "ValueError.__new__" = true
  k_NoRoads : PySem.W.keepIn K (.ref (cA 4)) = true
  b_NoRoads : PySem.W.subIn K (.ref (cA 4)) (.type "BaseException") = some true
  t_NoRoads : PySem.W.typeIn K (.ref (cA 4)) = some (.type "type")
  x_NothingBack : PySem.W.excIn K (cA 9) [.type "ValueError", .type "Exception", .type "BaseException", .type "object"] "ValueError.__new__" = true
  k_NothingBack : PySem.W.keepIn K (.ref (cA 9)) = true
  b_NothingBack : PySem.W.subIn K (.ref (cA 9)) (.type "BaseException") = some true
  t_NothingBack : PySem.W.typeIn K (.ref (cA 9)) = some (.type "type")
  x_TooGreat : PySem.W.excIn K (cA 2) [.type "ValueError", .type "Exception", .type "BaseException", .type "object"] "ValueError.__new__" = true
  k_TooGreat : PySem.W.keepIn K (.ref (cA 2)) = true
  b_TooGreat : PySem.W.subIn K (.ref (cA 2)) (.type "BaseException") = some true
  t_TooGreat : PySem.W.typeIn K (.ref (cA 2)) = some (.type "type")
def T__law_deck_h : TS :=
    tSeq (tAsg (tLc (iSeq K (tVar 0)) (gName 2) tYes (tCB rAbsQ (tCons (tVar 2) tNil)) [2]) (gName 1))
    (tRet (tLst (tCons (tLc (iSeq K (tVar 1)) (gName 2) (tTest (tOp oGe (tVar 2) (tOp oPow (tC (.int 10)) (tC (.int 18))))) (tVar 2) [2]) (tCons (tOp (rAddU K) (tVar 1) (tLst (tCons (tOp (rAddU K) (tCB (rLenQ K) (tCons (tVar 1) tNil)) (tC (.int 5))) tNil))) (tCons (tC (.int 0)) tNil)))))
theorem ss__law_deck_h : SS T__law_deck_h X__law_deck_h := by
  unfold X__law_deck_h T__law_deck_h
  exact ss_seq (ss_asg (sg_name (by decide)) (sw_M (SEF.se (sef_lc (si_seq se_var) sgv_name (by decide) st_yes (se_cb sc_abs (sa_cons se_var sa_nil))))))
    (ss_retO (swo_lst (swc_sub (swo_M (sef_lc (si_seq se_var) sgv_name (by decide) (st_test (se_op so_ge se_var (se_op so_pow se_int se_int))) se_var)) (swc_sub (swo_M (sef_op sof_cat se_var (SEF.se (sef_lst (sa_cons (se_op so_add (se_cb sc_len (sa_cons se_var sa_nil)) se_int) sa_nil))))) (swc_dat (sw_M se_int) swc_nil)))))
def T__law_kinds_b (w : World) (cA : Nat → Addr) (dA : Addr) : TS :=
    tSeq (tAsg (tLst (tCons (tCB (rIsX K) (tCons (tVar 0) (tCons (tC (.ref (cA 1))) tNil))) (tCons (tCB (rIsX K) (tCons (tVar 0) (tCons (tC (.ref (cA 2))) tNil))) (tCons (tCB (rIsX K) (tCons (tVar 0) (tCons (tC (.ref (cA 3))) tNil))) (tCons (tCB (rIsX K) (tCons (tVar 0) (tCons (tC (.ref (cA 4))) tNil))) tNil))))) (gName 1))
    (tSeq (tAsg (tOp (rAddU K) (tVar 1) (tLst (tCons (tCB (rIsX K) (tCons (tVar 0) (tCons (tC (.ref (cA 5))) tNil))) (tCons (tCB (rIsX K) (tCons (tVar 0) (tCons (tC (.ref (cA 6))) tNil))) (tCons (tCB (rIsX K) (tCons (tVar 0) (tCons (tC (.ref (cA 7))) tNil))) (tCons (tCB (rIsX K) (tCons (tVar 0) (tCons (tC (.ref (cA 8))) tNil))) tNil)))))) (gName 1))
    (tSeq (tAsg (tOp (rAddU K) (tVar 1) (tLst (tCons (tCB (rIsX K) (tCons (tVar 0) (tCons (tC (.ref (cA 9))) tNil))) (tCons (tCB (rIsX K) (tCons (tVar 0) (tCons (tC (.ref (cA 10))) tNil))) (tCons (tCB (rIsX K) (tCons (tVar 0) (tCons (tC (.ref (cA 11))) tNil))) (tCons (tCB (rIsX K) (tCons (tVar 0) (tCons (tC (.ref (cA 12))) tNil))) tNil)))))) (gName 1))
    (tSeq (tAsg (tOp (rAddU K) (tVar 1) (tLst (tCons (tCB (rIsX K) (tCons (tVar 0) (tCons (tC (.ref (cA 13))) tNil))) (tCons (tCB (rIsX K) (tCons (tVar 0) (tCons (tC (.ref (cA 14))) tNil))) (tCons (tCB (rIsX K) (tCons (tVar 0) (tCons (tC (.ref (cA 15))) tNil))) (tCons (tCB (rIsX K) (tCons (tVar 0) (tCons (tC (.ref (cA 16))) tNil))) tNil)))))) (gName 1))
    (tRet (tOp (rAddU K) (tVar 1) (tLst (tCons (tCB (rIsX K) (tCons (tVar 0) (tCons (tC (.ref (cA 17))) tNil))) (tCons (tCB (rIsX K) (tCons (tVar 0) (tCons (tC (.ref (cA 18))) tNil))) (tCons (tCB (rIsX K) (tCons (tVar 0) (tCons (tC (.ref (cA 19))) tNil))) (tCons (tCB (rIsX K) (tCons (tVar 0) (tCons (tC (.ref (cA 20))) tNil))) (tCons (tCB (rIsX K) (tCons (tVar 0) (tCons (tC (.ref (cA 21))) tNil))) tNil)))))))))))
theorem ss__law_kinds_b {mg : Str → Option Value} {w : World} {cA : Nat → Addr} {dA : Addr} (Z : HF mg w cA dA) : SS (T__law_kinds_b w cA dA) X__law_kinds_b := by
  unfold X__law_kinds_b T__law_kinds_b
  exact ss_seq (ss_asg (sg_name (by decide)) (sw_M (SEF.se (sef_lst (sa_cons (se_isX Z.ex (fun _ h => h) Z.it_BadWeb se_var) (sa_cons (se_isX Z.ex (fun _ h => h) Z.it_TooGreat se_var) (sa_cons (se_isX Z.ex (fun _ h => h) Z.it_Full se_var) (sa_cons (se_isX Z.ex (fun _ h => h) Z.it_NoRoads se_var) sa_nil))))))))
    (ss_seq (ss_asg (sg_name (by decide)) (sw_M (se_op so_add se_var (SEF.se (sef_lst (sa_cons (se_isX Z.ex (fun _ h => h) Z.it_BadOrder se_var) (sa_cons (se_isX Z.ex (fun _ h => h) Z.it_TooMany se_var) (sa_cons (se_isX Z.ex (fun _ h => h) Z.it_Long se_var) (sa_cons (se_isX Z.ex (fun _ h => h) Z.it_Busy se_var) sa_nil)))))))))
    (ss_seq (ss_asg (sg_name (by decide)) (sw_M (se_op so_add se_var (SEF.se (sef_lst (sa_cons (se_isX Z.ex (fun _ h => h) Z.it_NothingBack se_var) (sa_cons (se_isX Z.ex (fun _ h => h) Z.it_NoDeeds se_var) (sa_cons (se_isX Z.ex (fun _ h => h) Z.it_Broken se_var) (sa_cons (se_isX Z.ex (fun _ h => h) Z.it_Last se_var) sa_nil)))))))))
    (ss_seq (ss_asg (sg_name (by decide)) (sw_M (se_op so_add se_var (SEF.se (sef_lst (sa_cons (se_isX Z.ex (fun _ h => h) Z.it_Held se_var) (sa_cons (se_isX Z.ex (fun _ h => h) Z.it_NoRoom se_var) (sa_cons (se_isX Z.ex (fun _ h => h) Z.it_NoStream se_var) (sa_cons (se_isX Z.ex (fun _ h => h) Z.it_NoText se_var) sa_nil)))))))))
    (ss_ret (sw_M (se_op so_add se_var (SEF.se (sef_lst (sa_cons (se_isX Z.ex (fun _ h => h) Z.it_NoDoor se_var) (sa_cons (se_isX Z.ex (fun _ h => h) Z.it_NoRoad se_var) (sa_cons (se_isX Z.ex (fun _ h => h) Z.it_NoHouse se_var) (sa_cons (se_isX Z.ex (fun _ h => h) Z.it_NoEnd se_var) (sa_cons (se_isX Z.ex (fun _ h => h) Z.it_NoMoment se_var) sa_nil)))))))))))))
def T__law_made_b (w : World) (cA : Nat → Addr) (dA : Addr) : TS :=
    tSeq (tPar 2 3 (tCons (tXV (tMkO (cA 1) (spI2 (cA 1) "path" "word") [] (tCons (tVar 0) (tCons (tVar 1) tNil)))) (tCons (tXV (tMkO (cA 6) (spI (cA 6) "bound") [] (tCons (tVar 0) tNil))) tNil)))
    (tSeq (tAsg (tLst (tCons (tTupF (tCons (tVar 2) (tCons (tLst (tCons (tXat K "path" (tVar 2)) (tCons (tXat K "word" (tVar 2)) tNil))) (tCons (tLst (tCons (tVar 0) (tCons (tVar 1) tNil))) tNil)))) (tCons (tTupF (tCons (tXV (fun _ H Q => Q (.ref (cA 2)) none H)) (tCons (tLst tNil) (tCons (tLst tNil) tNil)))) (tCons (tTupF (tCons (tXV (fun _ H Q => Q (.ref (cA 3)) none H)) (tCons (tLst tNil) (tCons (tLst tNil) tNil)))) (tCons (tTupF (tCons (tXV (fun _ H Q => Q (.ref (cA 4)) none H)) (tCons (tLst tNil) (tCons (tLst tNil) tNil)))) tNil))))) (gName 4))
    (tSeq (tAsg (tOp (rAddU K) (tVar 4) (tLst (tCons (tTupF (tCons (tXV (fun _ H Q => Q (.ref (cA 5)) none H)) (tCons (tLst tNil) (tCons (tLst tNil) tNil)))) (tCons (tTupF (tCons (tVar 3) (tCons (tLst (tCons (tXat K "bound" (tVar 3)) tNil)) (tCons (tLst (tCons (tVar 0) tNil)) tNil)))) (tCons (tTupF (tCons (tXV (fun _ H Q => Q (.ref (cA 7)) none H)) (tCons (tLst tNil) (tCons (tLst tNil) tNil)))) (tCons (tTupF (tCons (tXV (fun _ H Q => Q (.ref (cA 8)) none H)) (tCons (tLst tNil) (tCons (tLst tNil) tNil)))) tNil)))))) (gName 4))
    (tSeq (Uv.tPar3 2 3 5 (tCons (tXV (tMkO (cA 11) (spI (cA 11) "number") [] (tCons (tVar 0) tNil))) (tCons (tXV (tMkO (cA 14) (spI (cA 14) "room") [] (tCons (tVar 0) tNil))) (tCons (tXV (tMkO (cA 15) (spI (cA 15) "fault") [] (tCons (tVar 0) tNil))) tNil))))
    (tSeq (tAsg (tOp (rAddU K) (tVar 4) (tLst (tCons (tTupF (tCons (tXV (fun _ H Q => Q (.ref (cA 9)) none H)) (tCons (tLst tNil) (tCons (tLst tNil) tNil)))) (tCons (tTupF (tCons (tXV (fun _ H Q => Q (.ref (cA 10)) none H)) (tCons (tLst tNil) (tCons (tLst tNil) tNil)))) (tCons (tTupF (tCons (tVar 2) (tCons (tLst (tCons (tXat K "number" (tVar 2)) tNil)) (tCons (tLst (tCons (tVar 0) tNil)) tNil)))) (tCons (tTupF (tCons (tXV (fun _ H Q => Q (.ref (cA 12)) none H)) (tCons (tLst tNil) (tCons (tLst tNil) tNil)))) tNil)))))) (gName 4))
    (tSeq (tAsg (tOp (rAddU K) (tVar 4) (tLst (tCons (tTupF (tCons (tXV (fun _ H Q => Q (.ref (cA 13)) none H)) (tCons (tLst tNil) (tCons (tLst tNil) tNil)))) (tCons (tTupF (tCons (tVar 3) (tCons (tLst (tCons (tXat K "room" (tVar 3)) tNil)) (tCons (tLst (tCons (tVar 0) tNil)) tNil)))) (tCons (tTupF (tCons (tVar 5) (tCons (tLst (tCons (tXat K "fault" (tVar 5)) tNil)) (tCons (tLst (tCons (tVar 0) tNil)) tNil)))) tNil))))) (gName 4))
    (tSeq (Uv.tPar3 2 3 5 (tCons (tXV (tMkO (cA 16) (spI (cA 16) "line") [] (tCons (tVar 0) tNil))) (tCons (tXV (tMkO (cA 17) (spI (cA 17) "road") [] (tCons (tVar 0) tNil))) (tCons (tXV (tMkO (cA 18) (spI (cA 18) "road") [] (tCons (tVar 0) tNil))) tNil))))
    (tSeq (tAsg (tOp (rAddU K) (tVar 4) (tLst (tCons (tTupF (tCons (tVar 2) (tCons (tLst (tCons (tXat K "line" (tVar 2)) tNil)) (tCons (tLst (tCons (tVar 0) tNil)) tNil)))) (tCons (tTupF (tCons (tVar 3) (tCons (tLst (tCons (tXat K "road" (tVar 3)) tNil)) (tCons (tLst (tCons (tVar 0) tNil)) tNil)))) (tCons (tTupF (tCons (tVar 5) (tCons (tLst (tCons (tXat K "road" (tVar 5)) tNil)) (tCons (tLst (tCons (tVar 0) tNil)) tNil)))) tNil))))) (gName 4))
    (tSeq (Uv.tPar3 2 3 5 (tCons (tXV (tMkO (cA 19) (spI (cA 19) "house") [] (tCons (tVar 0) tNil))) (tCons (tXV (tMkO (cA 20) (spI (cA 20) "end") [] (tCons (tVar 0) tNil))) (tCons (tXV (tMkO (cA 21) (spI (cA 21) "number") [] (tCons (tVar 0) tNil))) tNil))))
    (tRet (tOp (rAddU K) (tVar 4) (tLst (tCons (tTupF (tCons (tVar 2) (tCons (tLst (tCons (tXat K "house" (tVar 2)) tNil)) (tCons (tLst (tCons (tVar 0) tNil)) tNil)))) (tCons (tTupF (tCons (tVar 3) (tCons (tLst (tCons (tXat K "end" (tVar 3)) tNil)) (tCons (tLst (tCons (tVar 0) tNil)) tNil)))) (tCons (tTupF (tCons (tVar 5) (tCons (tLst (tCons (tXat K "number" (tVar 5)) tNil)) (tCons (tLst (tCons (tVar 0) tNil)) tNil)))) tNil))))))))))))))
theorem ss__law_made_b {mg : Str → Option Value} {w : World} {cA : Nat → Addr} {dA : Addr} (Z : HF mg w cA dA) : SS (T__law_made_b w cA dA) X__law_made_b := by
  unfold X__law_made_b T__law_made_b
  exact ss_seq (ss_par (by decide) (by decide) (swc_dat (sw_M (se_xv2 se_var se_var (Z.cl 1 (by decide)) rfl)) (swc_dat (sw_M (se_xv1 se_var (Z.cl 6 (by decide)) rfl)) swc_nil)))
    (ss_seq (ss_asg (sg_name (by decide)) (sw_M (SEF.se (sef_lst (sa_cons (se_tup (sa_cons se_var (sa_cons (SEF.se (sef_lst (sa_cons (se_xat Z.xf_path se_var) (sa_cons (se_xat Z.xf_word se_var) sa_nil)))) (sa_cons (SEF.se (sef_lst (sa_cons se_var (sa_cons se_var sa_nil)))) sa_nil)))) (sa_cons (se_tup (sa_cons (se_xv0 (Z.cl 2 (by decide)) rfl) (sa_cons (SEF.se (sef_lst sa_nil)) (sa_cons (SEF.se (sef_lst sa_nil)) sa_nil)))) (sa_cons (se_tup (sa_cons (se_xv0 (Z.cl 3 (by decide)) rfl) (sa_cons (SEF.se (sef_lst sa_nil)) (sa_cons (SEF.se (sef_lst sa_nil)) sa_nil)))) (sa_cons (se_tup (sa_cons (se_xv0 (Z.cl 4 (by decide)) rfl) (sa_cons (SEF.se (sef_lst sa_nil)) (sa_cons (SEF.se (sef_lst sa_nil)) sa_nil)))) sa_nil))))))))
    (ss_seq (ss_asg (sg_name (by decide)) (sw_M (se_op so_add se_var (SEF.se (sef_lst (sa_cons (se_tup (sa_cons (se_xv0 (Z.cl 5 (by decide)) rfl) (sa_cons (SEF.se (sef_lst sa_nil)) (sa_cons (SEF.se (sef_lst sa_nil)) sa_nil)))) (sa_cons (se_tup (sa_cons se_var (sa_cons (SEF.se (sef_lst (sa_cons (se_xat Z.xf_bound se_var) sa_nil))) (sa_cons (SEF.se (sef_lst (sa_cons se_var sa_nil))) sa_nil)))) (sa_cons (se_tup (sa_cons (se_xv0 (Z.cl 7 (by decide)) rfl) (sa_cons (SEF.se (sef_lst sa_nil)) (sa_cons (SEF.se (sef_lst sa_nil)) sa_nil)))) (sa_cons (se_tup (sa_cons (se_xv0 (Z.cl 8 (by decide)) rfl) (sa_cons (SEF.se (sef_lst sa_nil)) (sa_cons (SEF.se (sef_lst sa_nil)) sa_nil)))) sa_nil)))))))))
    (ss_seq (ss_par3 (by decide) (by decide) (by decide) (swc_dat (sw_M (se_xv1 se_var (Z.cl 11 (by decide)) rfl)) (swc_dat (sw_M (se_xv1 se_var (Z.cl 14 (by decide)) rfl)) (swc_dat (sw_M (se_xv1 se_var (Z.cl 15 (by decide)) rfl)) swc_nil))))
    (ss_seq (ss_asg (sg_name (by decide)) (sw_M (se_op so_add se_var (SEF.se (sef_lst (sa_cons (se_tup (sa_cons (se_xv0 (Z.cl 9 (by decide)) rfl) (sa_cons (SEF.se (sef_lst sa_nil)) (sa_cons (SEF.se (sef_lst sa_nil)) sa_nil)))) (sa_cons (se_tup (sa_cons (se_xv0 (Z.cl 10 (by decide)) rfl) (sa_cons (SEF.se (sef_lst sa_nil)) (sa_cons (SEF.se (sef_lst sa_nil)) sa_nil)))) (sa_cons (se_tup (sa_cons se_var (sa_cons (SEF.se (sef_lst (sa_cons (se_xat Z.xf_number se_var) sa_nil))) (sa_cons (SEF.se (sef_lst (sa_cons se_var sa_nil))) sa_nil)))) (sa_cons (se_tup (sa_cons (se_xv0 (Z.cl 12 (by decide)) rfl) (sa_cons (SEF.se (sef_lst sa_nil)) (sa_cons (SEF.se (sef_lst sa_nil)) sa_nil)))) sa_nil)))))))))
    (ss_seq (ss_asg (sg_name (by decide)) (sw_M (se_op so_add se_var (SEF.se (sef_lst (sa_cons (se_tup (sa_cons (se_xv0 (Z.cl 13 (by decide)) rfl) (sa_cons (SEF.se (sef_lst sa_nil)) (sa_cons (SEF.se (sef_lst sa_nil)) sa_nil)))) (sa_cons (se_tup (sa_cons se_var (sa_cons (SEF.se (sef_lst (sa_cons (se_xat Z.xf_room se_var) sa_nil))) (sa_cons (SEF.se (sef_lst (sa_cons se_var sa_nil))) sa_nil)))) (sa_cons (se_tup (sa_cons se_var (sa_cons (SEF.se (sef_lst (sa_cons (se_xat Z.xf_fault se_var) sa_nil))) (sa_cons (SEF.se (sef_lst (sa_cons se_var sa_nil))) sa_nil)))) sa_nil))))))))
    (ss_seq (ss_par3 (by decide) (by decide) (by decide) (swc_dat (sw_M (se_xv1 se_var (Z.cl 16 (by decide)) rfl)) (swc_dat (sw_M (se_xv1 se_var (Z.cl 17 (by decide)) rfl)) (swc_dat (sw_M (se_xv1 se_var (Z.cl 18 (by decide)) rfl)) swc_nil))))
    (ss_seq (ss_asg (sg_name (by decide)) (sw_M (se_op so_add se_var (SEF.se (sef_lst (sa_cons (se_tup (sa_cons se_var (sa_cons (SEF.se (sef_lst (sa_cons (se_xat Z.xf_line se_var) sa_nil))) (sa_cons (SEF.se (sef_lst (sa_cons se_var sa_nil))) sa_nil)))) (sa_cons (se_tup (sa_cons se_var (sa_cons (SEF.se (sef_lst (sa_cons (se_xat Z.xf_road se_var) sa_nil))) (sa_cons (SEF.se (sef_lst (sa_cons se_var sa_nil))) sa_nil)))) (sa_cons (se_tup (sa_cons se_var (sa_cons (SEF.se (sef_lst (sa_cons (se_xat Z.xf_road se_var) sa_nil))) (sa_cons (SEF.se (sef_lst (sa_cons se_var sa_nil))) sa_nil)))) sa_nil))))))))
    (ss_seq (ss_par3 (by decide) (by decide) (by decide) (swc_dat (sw_M (se_xv1 se_var (Z.cl 19 (by decide)) rfl)) (swc_dat (sw_M (se_xv1 se_var (Z.cl 20 (by decide)) rfl)) (swc_dat (sw_M (se_xv1 se_var (Z.cl 21 (by decide)) rfl)) swc_nil))))
    (ss_ret (sw_M (se_op so_add se_var (SEF.se (sef_lst (sa_cons (se_tup (sa_cons se_var (sa_cons (SEF.se (sef_lst (sa_cons (se_xat Z.xf_house se_var) sa_nil))) (sa_cons (SEF.se (sef_lst (sa_cons se_var sa_nil))) sa_nil)))) (sa_cons (se_tup (sa_cons se_var (sa_cons (SEF.se (sef_lst (sa_cons (se_xat Z.xf_end se_var) sa_nil))) (sa_cons (SEF.se (sef_lst (sa_cons se_var sa_nil))) sa_nil)))) (sa_cons (se_tup (sa_cons se_var (sa_cons (SEF.se (sef_lst (sa_cons (se_xat Z.xf_number se_var) sa_nil))) (sa_cons (SEF.se (sef_lst (sa_cons se_var sa_nil))) sa_nil)))) sa_nil))))))))))))))))
theorem ss_X__law_next_b1 : SS (tSeq (tAsg (tOp (rIx K) (tOp (rIx K) (tVar 0) (tC (.int 0))) (tC (.int 0))) (gName 2))
    (tSeq (tIfS (tTest (tOp (rGtU K) (tVar 2) (tC (.int 0)))) (tSeq (tAsg (tOp oDivW (tVar 2) (tVar 1)) (gSub (tOp (rIx K) (tVar 0) (tC (.int 0))) (tC (.int 0)) rSetL))
    (tRet (tOp oMod (tVar 2) (tVar 1)))) tNext)
    (tDrop (tBM K "list" rPopAt (tOp (rIx K) (tVar 0) (tC (.int 0))) (tCons (tC (.int 0)) tNil))))) X__law_next_b1 := by
  unfold X__law_next_b1
  exact ss_seq (ss_asg (sg_name (by decide)) (sw_V (se_op so_ix (se_op so_ix se_var se_int) se_int)))
    (ss_seq (ss_if (swt_M (st_test (se_op so_gtU se_var se_int))) (ss_seq (ss_setS se_int se_int (sw_M (se_op so_div se_var se_var)))
    (ss_ret (sw_M (se_op so_mod se_var se_var)))) ss_next)
    (ss_popS se_int se_int))
def T__law_next : TS :=
    tSeq (tWhile (tTest (tOp (rNeD K) (tOp (rIx K) (tVar 0) (tC (.int 0))) (tLst tNil))) (tSeq (tAsg (tOp (rIx K) (tOp (rIx K) (tVar 0) (tC (.int 0))) (tC (.int 0))) (gName 2))
    (tSeq (tIfS (tTest (tOp (rGtU K) (tVar 2) (tC (.int 0)))) (tSeq (tAsg (tOp oDivW (tVar 2) (tVar 1)) (gSub (tOp (rIx K) (tVar 0) (tC (.int 0))) (tC (.int 0)) rSetL))
    (tRet (tOp oMod (tVar 2) (tVar 1)))) tNext)
    (tDrop (tBM K "list" rPopAt (tOp (rIx K) (tVar 0) (tC (.int 0))) (tCons (tC (.int 0)) tNil))))))
    (tSeq (tAsg (tOp (rAddU K) (tOp (rIx K) (tVar 0) (tC (.int 2))) (tC (.int 1))) (gSub (tVar 0) (tC (.int 2)) rSetL))
    (tSeq (tAsg (tOp oMod (tOp (rIx K) (tOp (rIx K) (tVar 0) (tC (.int 1))) (tOp oMod (tOp (rIx K) (tVar 0) (tC (.int 2))) (tCB (rLenQ K) (tCons (tOp (rIx K) (tVar 0) (tC (.int 1))) tNil)))) (tC (.int 2147483647))) (gName 3))
    (tSeq (tAsg (tOp (rAddU K) (tOp (rAddU K) (tOp (rMulV K) (tVar 3) (tOp (rAddU K) (tC (.int 48271)) (tOp (rMulV K) (tC (.int 40692)) (tOp (rIx K) (tVar 0) (tC (.int 2)))))) (tOp (rMulV K) (tOp (rMulV K) (tC (.int 69621)) (tOp (rIx K) (tVar 0) (tC (.int 2)))) (tOp (rIx K) (tVar 0) (tC (.int 2))))) (tC (.int 13))) (gName 4))
    (tSeq (tAsg (tOp oMod (tVar 4) (tC (.int 2147483629))) (gName 4))
    (tRet (tOp oMod (tOp oDivW (tOp oMod (tOp (rMulV K) (tVar 4) (tVar 4)) (tC (.int 2147483587))) (tC (.int 16))) (tVar 1)))))))
theorem ss__law_next : SS T__law_next X__law_next := by
  unfold X__law_next T__law_next
  exact ss_seq (ss_while (swt_V (st_test (se_op so_ne (se_op so_ix se_var se_int) (SEF.se (sef_lst sa_nil))))) ss_X__law_next_b1)
    (ss_seq (ss_set se_int (sw_V (se_op so_add (se_op so_ix se_var se_int) se_int)))
    (ss_seq (ss_asg (sg_name (by decide)) (sw_V (se_op so_mod (se_op so_ix (se_op so_ix se_var se_int) (se_op so_mod (se_op so_ix se_var se_int) (se_cb sc_len (sa_cons (se_op so_ix se_var se_int) sa_nil)))) se_int)))
    (ss_seq (ss_asg (sg_name (by decide)) (sw_V (se_op so_add (se_op so_add (se_op so_mulV se_var (se_op so_add se_int (se_op so_mulV se_int (se_op so_ix se_var se_int)))) (se_op so_mulV (se_op so_mulV se_int (se_op so_ix se_var se_int)) (se_op so_ix se_var se_int))) se_int)))
    (ss_seq (ss_asg (sg_name (by decide)) (sw_M (se_op so_mod se_var se_int)))
    (ss_ret (sw_M (se_op so_mod (se_op so_div (se_op so_mod (se_op so_mulV se_var se_var) se_int) se_int) se_var)))))))
def T__law_odd : TS :=
    tSeq (tAsg (tLst (tCons (tC .non) (tCons (tC (.bl true)) (tCons (tC (.bl false)) (tCons (tC (.int 0)) (tCons (tC (.int 1)) (tCons (tUn oNeg (tC (.int 1))) (tCons (tC (.int 9)) (tCons (tOp (rAddU K) (tOp oPow (tC (.int 10)) (tC (.int 12))) (tC (.int 1))) (tCons (tOp oPow (tC (.int 10)) (tC (.int 29))) (tCons (tC (.str "")) (tCons (tC (.str "0")) (tCons (tTupF tNil) (tCons (tTupF (tCons (tC (.int 0)) tNil)) (tCons (tTupF (tCons (tC .non) tNil)) (tCons (tLst tNil) (tCons (tLst (tCons (tC (.int 0)) tNil)) (tCons tDNewK (tCons (tTupF (tCons (tTupF tNil) tNil)) tNil))))))))))))))))))) (gName 1))
    (tRet (tOp (rIx K) (tVar 1) (tCall (spW F__law_next) [] E0 (tCons (tVar 0) (tCons (tC (.int 18)) tNil)))))
theorem ss__law_odd : SS T__law_odd X__law_odd := by
  unfold X__law_odd T__law_odd
  exact ss_seq (ss_asg (sg_name (by decide)) (sw_M (SEF.se (sef_lst (sa_cons se_non (sa_cons se_bl (sa_cons se_bl (sa_cons se_int (sa_cons se_int (sa_cons (se_un su_neg se_int) (sa_cons se_int (sa_cons (se_op so_add (se_op so_pow se_int se_int) se_int) (sa_cons (se_op so_pow se_int se_int) (sa_cons se_str (sa_cons se_str (sa_cons (se_tup sa_nil) (sa_cons (se_tup (sa_cons se_int sa_nil)) (sa_cons (se_tup (sa_cons se_non sa_nil)) (sa_cons (SEF.se (sef_lst sa_nil)) (sa_cons (SEF.se (sef_lst (sa_cons se_int sa_nil))) (sa_cons se_d0 (sa_cons (se_tup (sa_cons (se_tup sa_nil) sa_nil)) sa_nil))))))))))))))))))))))
    (ss_ret (sw_op so_ix (sw_M se_var) (sw_callK (swa_cons (sw_M se_int) swa_nil))))
theorem ss_X_law_z197_b1 {mg : Str → Option Value} {w : World} {cA : Nat → Addr} {dA : Addr} (Z : HF mg w cA dA) : SS (tSeq (tIfS (tOr (tTest (tOp (rNeD K) (tCB (rRepr K) (tCons (tVar 5) tNil)) (tCB (rRepr K) (tCons (tVar 6) tNil)))) (tTest (tOp (rNeD K) (tCall (spF F__law_kinds_b) [] E0 (tCons (tVar 4) tNil)) (tLc (iRng1 (tCons (tC (.int 21)) tNil)) (gName 8) tYes (tOp (rEqX K) (tVar 8) (tVar 3)) [8])))) (tRet (tC (.bl false))) tNext)
    (tSeq (tAsg (tOp (rGtU K) (tVar 3) (tC (.int 15))) (gName 7))
    (tSeq (tIfS (tOr (tTest (tOp (rEqX K) (tCB (rIsX K) (tCons (tVar 4) (tCons (tC (.ref (cA 0))) tNil))) (tVar 7))) (tTest (tOp (rEqX K) (tCB (rIsX K) (tCons (tVar 4) (tCons (tC (.ty "ValueError")) tNil))) (tVar 7)))) (tRet (tC (.bl false))) tNext)
    (tIfS (tTest (tOp (rNeD K) (tCB (rIsX K) (tCons (tVar 4) (tCons (tC (.ty "LookupError")) tNil))) (tVar 7))) (tRet (tC (.bl false))) tNext)))) X_law_z197_b1 := by
  unfold X_law_z197_b1
  exact ss_seq (ss_if (swt_M (st_or (st_test (se_op so_ne (se_cb sc_repr (sa_cons se_var sa_nil)) (se_cb sc_repr (sa_cons se_var sa_nil)))) (st_test (se_op so_ne (se_call (sa_cons se_var sa_nil)) (SEF.se (sef_lc (si_rng (sa_cons se_int sa_nil)) sgv_name (by decide) st_yes (se_op so_eq se_var se_var))))))) (ss_fz (ss_ret (sw_M se_bl))) ss_next)
    (ss_seq (ss_asg (sg_name (by decide)) (sw_M (se_op so_gtU se_var se_int)))
    (ss_seq (ss_if (swt_M (st_or (st_test (se_op so_eq (se_isX Z.ex (fun _ h => h) Z.it_WebError se_var) se_var)) (st_test (se_op so_eq (se_isX Z.ex (fun _ h => h) Z.it_ValueError se_var) se_var)))) (ss_fz (ss_ret (sw_M se_bl))) ss_next)
    (ss_if (swt_M (st_test (se_op so_ne (se_isX Z.ex (fun _ h => h) Z.it_LookupError se_var) se_var))) (ss_fz (ss_ret (sw_M se_bl))) ss_next)))
theorem ss_X_law_z197_b2 {mg : Str → Option Value} {w : World} {cA : Nat → Addr} {dA : Addr} (Z : HF mg w cA dA) : SS (tFor (iEnumU K (tCons (tCall (spF F__law_made_b) [] E0 (tCons (tCall (spW F__law_odd) [] E0 (tCons (tVar 1) tNil)) (tCons (tCall (spW F__law_odd) [] E0 (tCons (tVar 1) tNil)) tNil))) tNil)) (gTU K 2 (gCons (gName 3) (gCons (gTU K 3 (gCons (gName 4) (gCons (gName 5) (gCons (gName 6) gNil)))) gNil))) (tSeq (tIfS (tOr (tTest (tOp (rNeD K) (tCB (rRepr K) (tCons (tVar 5) tNil)) (tCB (rRepr K) (tCons (tVar 6) tNil)))) (tTest (tOp (rNeD K) (tCall (spF F__law_kinds_b) [] E0 (tCons (tVar 4) tNil)) (tLc (iRng1 (tCons (tC (.int 21)) tNil)) (gName 8) tYes (tOp (rEqX K) (tVar 8) (tVar 3)) [8])))) (tRet (tC (.bl false))) tNext)
    (tSeq (tAsg (tOp (rGtU K) (tVar 3) (tC (.int 15))) (gName 7))
    (tSeq (tIfS (tOr (tTest (tOp (rEqX K) (tCB (rIsX K) (tCons (tVar 4) (tCons (tC (.ref (cA 0))) tNil))) (tVar 7))) (tTest (tOp (rEqX K) (tCB (rIsX K) (tCons (tVar 4) (tCons (tC (.ty "ValueError")) tNil))) (tVar 7)))) (tRet (tC (.bl false))) tNext)
    (tIfS (tTest (tOp (rNeD K) (tCB (rIsX K) (tCons (tVar 4) (tCons (tC (.ty "LookupError")) tNil))) (tVar 7))) (tRet (tC (.bl false))) tNext))))) X_law_z197_b2 := by
  unfold X_law_z197_b2
  exact ss_for (swi_enum (swa_cons (sw_call (swa_cons (sw_callK swa_nil) (swa_cons (sw_callK swa_nil) swa_nil))) swa_nil)) (sg_tup (sg_cons (sg_name (by decide)) (sg_cons (sg_tup (sg_cons (sg_name (by decide)) (sg_cons (sg_name (by decide)) (sg_cons (sg_name (by decide)) sg_nil)))) sg_nil))) (ss_X_law_z197_b1 Z)
def T_law_z197 (w : World) (cA : Nat → Addr) (dA : Addr) : TS :=
    tSeq (tAsg (tCall (spD F__law_deck_h) [] E0 (tCons (tVar 0) tNil)) (gName 1))
    (tSeq (tIfS (tTest (tOp (rNeD K) (tLst (tCons (tC (.int 8)) (tCons (tC (.int 20)) (tCons (tC (.int 1000000000000)) (tCons (tC (.int 28)) (tCons (tC (.int 36)) (tCons (tC (.int 1000000000000000)) tNil))))))) (tLst (tCons (tC (.int 8)) (tCons (tC (.int 20)) (tCons (tOp oPow (tC (.int 10)) (tC (.int 12))) (tCons (tC (.int 28)) (tCons (tC (.int 36)) (tCons (tOp oPow (tC (.int 10)) (tC (.int 15))) tNil))))))))) (tRet (tC (.bl false))) tNext)
    (tSeq (tIfS (tTest (tOp (rNeD K) (tLst (tCons (tC (.int 4096)) (tCons (tC (.int 60)) (tCons (tC (.int 20)) tNil)))) (tLst (tCons (tC (.int 4096)) (tCons (tC (.int 60)) (tCons (tC (.int 20)) tNil)))))) (tRet (tC (.bl false))) tNext)
    (tSeq (tFor (iRng1 (tCons (tC (.int 6)) tNil)) (gName 2) (tFor (iEnumU K (tCons (tCall (spF F__law_made_b) [] E0 (tCons (tCall (spW F__law_odd) [] E0 (tCons (tVar 1) tNil)) (tCons (tCall (spW F__law_odd) [] E0 (tCons (tVar 1) tNil)) tNil))) tNil)) (gTU K 2 (gCons (gName 3) (gCons (gTU K 3 (gCons (gName 4) (gCons (gName 5) (gCons (gName 6) gNil)))) gNil))) (tSeq (tIfS (tOr (tTest (tOp (rNeD K) (tCB (rRepr K) (tCons (tVar 5) tNil)) (tCB (rRepr K) (tCons (tVar 6) tNil)))) (tTest (tOp (rNeD K) (tCall (spF F__law_kinds_b) [] E0 (tCons (tVar 4) tNil)) (tLc (iRng1 (tCons (tC (.int 21)) tNil)) (gName 8) tYes (tOp (rEqX K) (tVar 8) (tVar 3)) [8])))) (tRet (tC (.bl false))) tNext)
    (tSeq (tAsg (tOp (rGtU K) (tVar 3) (tC (.int 15))) (gName 7))
    (tSeq (tIfS (tOr (tTest (tOp (rEqX K) (tCB (rIsX K) (tCons (tVar 4) (tCons (tC (.ref (cA 0))) tNil))) (tVar 7))) (tTest (tOp (rEqX K) (tCB (rIsX K) (tCons (tVar 4) (tCons (tC (.ty "ValueError")) tNil))) (tVar 7)))) (tRet (tC (.bl false))) tNext)
    (tIfS (tTest (tOp (rNeD K) (tCB (rIsX K) (tCons (tVar 4) (tCons (tC (.ty "LookupError")) tNil))) (tVar 7))) (tRet (tC (.bl false))) tNext))))))
    (tRet (tC (.bl true))))))
theorem ss_law_z197 {mg : Str → Option Value} {w : World} {cA : Nat → Addr} {dA : Addr} (Z : HF mg w cA dA) : SS (T_law_z197 w cA dA) X_law_z197 := by
  unfold X_law_z197 T_law_z197
  exact ss_seq (ss_own (by decide) (sw_callD (swa_cons (sw_M se_var) swa_nil)))
    (ss_seq (ss_if (swt_M (st_test (se_op so_ne (SEF.se (sef_lst (sa_cons se_int (sa_cons se_int (sa_cons se_int (sa_cons se_int (sa_cons se_int (sa_cons se_int sa_nil)))))))) (SEF.se (sef_lst (sa_cons se_int (sa_cons se_int (sa_cons (se_op so_pow se_int se_int) (sa_cons se_int (sa_cons se_int (sa_cons (se_op so_pow se_int se_int) sa_nil))))))))))) (ss_fz (ss_ret (sw_M se_bl))) ss_next)
    (ss_seq (ss_if (swt_M (st_test (se_op so_ne (SEF.se (sef_lst (sa_cons se_int (sa_cons se_int (sa_cons se_int sa_nil))))) (SEF.se (sef_lst (sa_cons se_int (sa_cons se_int (sa_cons se_int sa_nil)))))))) (ss_fz (ss_ret (sw_M se_bl))) ss_next)
    (ss_seq (ss_for (swi_rng (swa_cons (sw_M se_int) swa_nil)) (sg_name (by decide)) (ss_X_law_z197_b2 Z))
    (ss_fz (ss_ret (sw_M se_bl))))))
end
end Fn
namespace Uv
open PySem PySem.Spec PyProof.Rows L2
section
variable {ρ : Uv.Env} {v : VE}
@[simp] theorem q_vw_hal {k : Nat} {h : HS} : (Sl.hal k h).vw = some h.pd := (rfl)
@[simp] theorem q_mk_hal {k : Nat} {h : HS} : (Sl.hal k h).mk = none := (rfl)
@[simp] theorem q_fzE_hal {k : Nat} {h : HS} {r : Uv.Env} : fzE (.hal k h :: r) 0 = .hal k h :: r := (rfl)
@[simp] theorem q_isHeld {n : Nat} {ds : List PD} : isHeld (heldD n ds) = some (n, ds) := (rfl)
@[simp] theorem isExz_t {ds : List PD} : isExz (.tuple ds) = none := (rfl)
@[simp] theorem isExz_n : isExz .none = none := (rfl)
@[simp] theorem isExz_i {i : Int} : isExz (.int i) = none := (rfl)
@[simp] theorem isExz_b {b : Bool} : isExz (.bool b) = none := (rfl)
@[simp] theorem isExz_s {x : Str} : isExz (.str x) = none := (rfl)
@[simp] theorem isExz_l {ds : List PD} : isExz (.list ds) = none := (rfl)
@[simp] theorem isExz_h {h : HS} : isExz h.pd = none := (rfl)
@[simp] theorem q_hd1 {d : PD} {ds : List PD} : hd1 (.tuple (d :: ds)) = some (d, ds) := (rfl)
@[simp] theorem q_isX {tab : Nat → Option Bool} {n : Nat} {es : List PD} : isX tab (heldD n es) = (tab n).bind fun b => some (.bool b) := (rfl)
@[simp] theorem q_xatD {f : Str} {n : Nat} {es : List PD} : xatD f (heldD n es) = ((exFld n).zip es).lookup f := (rfl)
@[simp] theorem q_isNone_h {n : Nat} {es : List PD} : isNone (heldD n es) = false := (rfl)
@[simp] theorem q_toSl_h {h : HS} : toSl (.hal h) = .hal 1000 h := (rfl)
end
end Uv

namespace Fn
open PySem PySem.Spec PyProof.Rows L2 Uv
end Fn

namespace Uv
open PySem PySem.Spec PyProof.Rows L2
end Uv

namespace Fn
open PySem PySem.Spec PyProof.Rows L2 Uv
end Fn

namespace Fn
open PySem PySem.Spec PyProof.Rows L2 Uv
def DkA (b : Nat) (cs : List Cel) : Prop := ∃ (gs ns : List Int) (n : Int), cs = [.sub (gs.map PyData.int), .sub (ns.map PyData.int), .dat (.int n)] ∧ gs.length ≤ 63 ∧ ns ≠ [] ∧ ns.length ≤ 64 ∧ 0 ≤ n ∧ n ≤ b
theorem DkA.mono {b c : Nat} {cs : List Cel} (h : DkA b cs) (hb : b ≤ c) : DkA c cs := by
  obtain ⟨gs, ns, n, e, h1, h2, h3, h4, h5⟩ := h
  exact ⟨gs, ns, n, e, h1, h2, h3, h4, by omega⟩
theorem ne_nilIA {l : List Int} : neP (.list (l.map PyData.int)) (.list []) = some (.bool (!l.isEmpty)) := by
  unfold neP
  rw [if_pos ⟨PySem.W.shaped_ints _, rfl⟩]
  cases l <;> rfl
theorem a_next {b : Nat} {cs : List Cel} {m : Int} {Q : PD × List Cel → Prop} (h : DkA b cs) (hb : b ≤ 2 ^ 40) (hm : 0 < m) (hm2 : m < 2 ^ 64) (hq : ∀ (r : Nat) cs', (r : Int) < m → DkA (b + 1) cs' → Q (natD r, cs')) : wp (F__law_next cs [.int m]) (tag Q) := by
  obtain ⟨gs, ns, n, rfl, hg, hn0, hnl, h0, hn⟩ := h
  have dv : Dvr m := ⟨hm, hm2⟩
  have ln : 0 < ns.length := List.length_pos_iff.mpr hn0
  unfold F__law_next
  refine wp_runW rfl ?_
  unfold X__law_next
  simp -implicitDefEqProofs
  refine wp_while (fun k ρ => ∃ (gs : List Int) (z2 z3 z4 : Sl), ρ = [.own [.sub (gs.map PyData.int), .sub (ns.map PyData.int), .dat (.int n)], .dat (.int m), z2, z3, z4] ∧ gs.length = k ∧ gs.length ≤ 63) (k := gs.length) (@fuel_lt kk0 _ (by omega)) ⟨gs, _, _, _, rfl, rfl, hg⟩ ?_
  rintro k ρ ⟨gs, z2, z3, z4, rfl, hk, hg⟩
  simp -implicitDefEqProofs [ne_nilIA]
  refine ⟨fun z => ?_, fun z => ?_⟩
  · subst z
    obtain ⟨j, hj, ej⟩ := emod_nat (a := n + 1) (show (0 : Int) < (ns.length : Int) by omega)
    have hj : j < ns.length := by omega
    refine ⟨ln, ?_⟩
    rw [ej, atI_map hj]
    obtain ⟨t, ht⟩ : ∃ t, t = n + 1 := ⟨_, rfl⟩
    obtain ⟨c, hc⟩ : ∃ c, c = ns[j] % 2147483647 := ⟨_, rfl⟩
    have c64 : In64 c := ⟨by omega, by omega⟩
    have t64 : In64 t := ⟨by omega, by omega⟩
    have e1 : In64 40692 := ⟨by decide, by decide⟩
    have e2 : In64 69621 := ⟨by decide, by decide⟩
    rw [← ht]
    simp -implicitDefEqProofs
    rw [← hc]
    simp -implicitDefEqProofs [c64, t64, e1, e2]
    obtain ⟨x, hx⟩ : ∃ x, x = (c * (48271 + 40692 * t) + 69621 * t * t + 13) % 2147483629 := ⟨_, rfl⟩
    have x64 : In64 x := ⟨by omega, by omega⟩
    rw [← hx]
    simp -implicitDefEqProofs [x64, hm]
    obtain ⟨i, hi, ei⟩ := emod_nat (a := x * x % 2147483587 / 16) hm
    rw [ei]
    exact hq i _ hi ⟨[], ns, t, by simp, by simp, hn0, hnl, by omega, by omega⟩
  · obtain ⟨g, gt, rfl⟩ : ∃ g gt, gs = g :: gt := by
      cases gs with
      | nil => exact absurd rfl z
      | cons g gt => exact ⟨g, gt, rfl⟩
    unfold X__law_next_b1
    have a0 : atI (PyData.int g :: gt.map PyData.int) 0 = some (.int g) := atI_at (k := 0) (by simp)
    have x0 : ixN (gt.length + 1) 0 = some 0 := ixN_nat' (n := gt.length + 1) (k := 0) (by omega)
    simp -implicitDefEqProofs [a0]
    refine wp_altd (fun c => ?_) (fun c => ?_)
    · simp -implicitDefEqProofs [hm, dv, x0]
      obtain ⟨i, hi, ei⟩ := emod_nat (a := g) hm
      rw [ei]
      exact hq i _ hi ⟨g / m :: gt, ns, n, by simp, by simpa using hg, hn0, hnl, h0, by omega⟩
    · simp -implicitDefEqProofs [x0]
      exact ⟨gt.length, by simp at hk; omega, gt, _, _, _, rfl, rfl, by simp at hg; omega⟩
theorem a_deck {ns : List Int} {Q : List Cel → Prop} (h : ns.length ≤ 63) (hq : ∀ cs, DkA 0 cs → Q cs) : wp (F__law_deck_h [scrD (ns.map PyData.int)]) (tag Q) := by
  unfold F__law_deck_h
  refine wp_runD rfl ?_
  unfold X__law_deck_h
  simp -implicitDefEqProofs
  refine ⟨by omega, wp_lcT (fun i => .int (if i < 0 then -i else i)) (fun i hi => by simp -implicitDefEqProofs) ?_⟩
  have e : ns.map (fun i => PyData.int (if i < 0 then -i else i)) = (ns.map fun i => if i < 0 then -i else i).map PyData.int := by rw [List.map_map]; rfl
  rw [e]
  obtain ⟨ms, hms⟩ : ∃ ms, ms = ns.map fun (i : Int) => if i < 0 then -i else i := ⟨_, rfl⟩
  have ml : ms.length ≤ 63 := by rw [hms, List.length_map]; exact h
  rw [← hms]
  simp -implicitDefEqProofs
  refine ⟨by omega, wp_lc (fun i => decide ((1000000000000000000 : Int) ≤ i)) PyData.int (fun i hi => by simp -implicitDefEqProofs) ?_⟩
  simp -implicitDefEqProofs
  refine ⟨by omega, hq _ ⟨ms.filter fun i => decide ((1000000000000000000 : Int) ≤ i), ms ++ [(ms.length : Int) + 5], 0, by simp, ?_, by simp, by simp; omega, by omega, by omega⟩⟩
  exact Nat.le_trans (List.length_filter_le ..) ml
end Fn

namespace Fn
open PySem PySem.Spec PyProof.Rows L2 Uv
end Fn

namespace Fn
open PySem PySem.Spec PyProof.Rows L2 Uv
@[simp] theorem p_is_number {i : Int} : F_is_number [.int i] = some (.bool true) := by
  unfold F_is_number
  refine eq_of_wp (wp_runP rfl ?_)
  unfold X_is_number
  simp -implicitDefEqProofs
@[simp] theorem p_is_tuple_of {ds : List PD} {a b : Int} : F_is_tuple_of [.tuple ds, .int a, .int b] = some (.bool (decide (a ≤ ds.length) && decide ((ds.length : Int) ≤ b))) := by
  unfold F_is_tuple_of
  refine eq_of_wp (wp_runP rfl ?_)
  unfold X_is_tuple_of
  simp -implicitDefEqProofs
end Fn

namespace Fn
open PySem PySem.Spec PyProof.Rows L2 Uv
end Fn

namespace Fn
open PySem PySem.Spec PyProof.Rows L2 Uv
end Fn

namespace Fn
open PySem PySem.Spec PyProof.Rows L2 Uv
end Fn

namespace Calm
def sm (l : List Nat) (g : Nat → Int) : Int := (l.map g).sum
theorem sm_cons {x : Nat} {l : List Nat} {g : Nat → Int} : sm (x :: l) g = g x + sm l g := by simp [sm]
theorem sm_same {l : List Nat} {g g' : Nat → Int} (h : ∀ j ∈ l, g' j = g j) : sm l g' = sm l g := by
  unfold sm
  rw [List.map_congr_left h]
theorem sm_le {l : List Nat} {g g' : Nat → Int} (h : ∀ j ∈ l, g j ≤ g' j) : sm l g ≤ sm l g' := by
  induction l with
  | nil => exact Int.le_refl _
  | cons x xs ih =>
    have h1 := h x (List.mem_cons_self ..)
    have h2 := ih fun j hj => h j (List.mem_cons_of_mem _ hj)
    rw [sm_cons, sm_cons]
    omega
theorem sm_nn {l : List Nat} {g : Nat → Int} (h : ∀ j ∈ l, 0 ≤ g j) : 0 ≤ sm l g := by
  have := sm_le (g := fun _ => 0) h
  have e : ∀ l : List Nat, sm l (fun _ => 0) = 0 := fun l => by
    induction l with
    | nil => rfl
    | cons x xs ih => rw [sm_cons, ih]; rfl
  rw [e] at this
  exact this
structure Net where
  n : Nat
  hs : Nat
  b : Nat → Option Nat
  e : Nat → Option Nat
  r : Nat → Int
  g : Nat → List Nat
  t : Nat → List Nat
structure Net.Ok (N : Net) : Prop where
  ne : ∀ k, k < N.n → N.b k ≠ N.e k
  r0 : ∀ k, 0 ≤ N.r k
  gm : ∀ h k, k ∈ N.g h ↔ k < N.n ∧ N.b k = some h
  tm : ∀ h k, k ∈ N.t h ↔ k < N.n ∧ N.e k = some h
  gn : ∀ h, (N.g h).Nodup
  tn : ∀ h, (N.t h).Nodup
  bh : ∀ k h, k < N.n → N.b k = some h → h < N.hs
  eh : ∀ k h, k < N.n → N.e k = some h → h < N.hs
variable {N : Net}
def outs (N : Net) (D R : Nat → Int) (h : Nat) : Int := sm (N.g h) fun k => D k - R k
def ins (N : Net) (D R : Nat → Int) (h : Nat) : Int := sm (N.t h) fun k => D k - R k
def worse (N : Net) (D R : Nat → Int) (h k : Nat) : Int := sm (N.t h) fun j => if (N.t h).idxOf k < (N.t h).idxOf j then D j - R j else 0
structure St (N : Net) (D R : Nat → Int) : Prop where
  i1 : ∀ k, 0 ≤ R k ∧ R k ≤ D k ∧ D k ≤ N.r k
  i2 : ∀ k, N.b k = none → D k = N.r k
  i3 : ∀ h k j, k ∈ N.g h → j ∈ N.g h → (N.g h).idxOf k < (N.g h).idxOf j → 0 < D j → D k = N.r k
  i4 : ∀ k, N.e k = none → R k = 0
  i5 : ∀ h, outs N D R h ≤ ins N D R h
  i6 : ∀ h k, k ∈ N.t h → 0 < R k → (∀ j ∈ N.g h, D j = N.r j) ∧ worse N D R h k ≤ ins N D R h - outs N D R h
def up (D : Nat → Int) (k : Nat) : Nat → Int := fun j => if j = k then D j + 1 else D j
theorem start (ok : N.Ok) : St N (fun k => if N.b k = none then N.r k else 0) fun _ => 0 := by
  refine ⟨fun k => ?_, fun k hk => if_pos hk, fun h k j hk hj hij hD => ?_, fun _ _ => rfl, fun h => ?_, fun h k hk hR => by omega⟩
  · have := ok.r0 k
    split <;> omega
  · have : N.b j ≠ none := fun z => by rw [((ok.gm h j).mp hj).2] at z; exact nomatch z
    rw [if_neg this] at hD
    omega
  · have e : outs N (fun k => if N.b k = none then N.r k else 0) (fun _ => 0) h = sm (N.g h) fun _ => 0 := sm_same fun j hj => by
      have : N.b j ≠ none := fun z => by rw [((ok.gm h j).mp hj).2] at z; exact nomatch z
      show (if N.b j = none then N.r j else 0) - 0 = 0
      rw [if_neg this]; rfl
    have z : sm (N.g h) (fun _ => 0) ≤ sm (N.g h) (fun _ => 0) := Int.le_refl _
    have e0 : ∀ l : List Nat, sm l (fun _ => 0) = 0 := fun l => by
      induction l with
      | nil => rfl
      | cons x xs ih => rw [sm_cons, ih]; rfl
    rw [e, e0]
    exact sm_nn fun j _ => by
      have := ok.r0 j
      show 0 ≤ (if N.b j = none then N.r j else 0) - 0
      split <;> omega
end Calm

namespace Uv
open PySem PySem.Spec PyProof.Rows L2
def rd (W : Web) (k : Nat) : Road := W.roads.getD k ⟨none, none, 0⟩
def giv (W : Web) (h : Nat) : List Nat := W.gives.getD h []
def tak (W : Web) (h : Nat) : List Nat := W.takes.getD h []
def at0 (f : List Int) (k : Nat) : Int := f.getD k 0
def lessB (f : List Int) (o : List Nat) (k : Nat) : Bool := (o.drop (o.idxOf k + 1)).any fun j => decide (0 < at0 f j)
def pushB (W : Web) (f : List Int) (lot : List Nat) (k : Nat) : Bool := match (rd W k).b with
  | none => true
  | some h => lot.contains h || lessB f (giv W h) k
def pullB (W : Web) (f : List Int) (lot : List Nat) (k : Nat) : Bool := match (rd W k).e with
  | none => true
  | some h => !lot.contains h || lessB f (tak W h) k
def openB (W : Web) (f : List Int) (k : Nat) : Bool := decide (at0 f k < (rd W k).r)
def calmB (W : Web) (f : List Int) (lot : List Nat) : Bool := (List.range W.roads.length).all fun k => !(openB W f k && pushB W f lot k && pullB W f lot k)
structure Bears (W : Web) (f : List Int) : Prop where
  len : f.length = W.roads.length
  nn : ∀ x ∈ f, 0 ≤ x
structure IsLot (n : Nat) (l : List Nat) : Prop where
  up : l.Pairwise (· < ·)
  lt : ∀ x ∈ l, x < n
section
variable {W : Web} {f : List Int}
end
end Uv

namespace Fn
open PySem PySem.Spec PyProof.Rows L2 Uv
section
variable {W : Web} {f : List Int} {lot : List Nat}
end
end Fn

namespace Fn
open PySem PySem.Spec PyProof.Rows L2 Uv
section
variable {W : Web} {f : List Int} {lot : List Nat}
end
end Fn

namespace Fn
open PySem PySem.Spec PyProof.Rows L2 Uv
section
variable {W : Web} {f : List Int} {lot : List Nat}
end
end Fn

namespace Fn
open PySem PySem.Spec PyProof.Rows L2 Uv
section
variable {W : Web} {f : List Int} {lot : List Nat}
def evenB (W : Web) (f : List Int) : Bool := (List.range W.gives.length).all fun h => decide (((giv W h).map (at0 f)).sum = ((tak W h).map (at0 f)).sum)
end
end Fn

namespace Fn
open PySem PySem.Spec PyProof.Rows L2 Uv
section
variable {W : Web} {f : List Int} {lot : List Nat}
end
end Fn

namespace Calm
theorem sm_add {l : List Nat} {g g' : Nat → Int} : sm l (fun k => g k + g' k) = sm l g + sm l g' := by
  induction l with
  | nil => rfl
  | cons x xs ih => rw [sm_cons, sm_cons, sm_cons, ih]; omega
theorem sm_nul {l : List Nat} {g : Nat → Int} (h : ∀ k ∈ l, g k = 0) : sm l g = 0 := by
  induction l with
  | nil => rfl
  | cons x xs ih =>
    rw [sm_cons, h x (List.mem_cons_self ..), ih fun k hk => h k (List.mem_cons_of_mem _ hk)]; rfl
theorem sm_perm {l m : List Nat} {g : Nat → Int} (p : l.Perm m) : sm l g = sm m g := by
  induction p with
  | nil => rfl
  | cons x _ ih => rw [sm_cons, sm_cons, ih]
  | swap x y l => rw [sm_cons, sm_cons, sm_cons, sm_cons]; omega
  | trans _ _ h1 h2 => rw [h1, h2]
theorem sm_swap {l m : List Nat} {G : Nat → Nat → Int} : sm l (fun h => sm m fun k => G h k) = sm m fun k => sm l fun h => G h k := by
  induction l with
  | nil => exact (sm_nul fun _ _ => rfl).symm
  | cons x xs ih => rw [sm_cons, ih, ← sm_add]; rfl
theorem sm_single {l : List Nat} {g : Nat → Int} {a : Nat} (nd : l.Nodup) (ha : a ∈ l) (h : ∀ k ∈ l, k ≠ a → g k = 0) : sm l g = g a := by
  induction l with
  | nil => exact nomatch ha
  | cons x xs ih =>
    obtain ⟨n1, n2⟩ := List.nodup_cons.mp nd
    rw [sm_cons]
    by_cases e : x = a
    · subst e
      rw [sm_nul fun k hk => h k (List.mem_cons_of_mem _ hk) fun z => n1 (z ▸ hk)]
      omega
    · rw [h x (List.mem_cons_self ..) e, ih n2 ((List.mem_cons.mp ha).resolve_left fun z => e z.symm) fun k hk => h k (List.mem_cons_of_mem _ hk)]
      omega
theorem sm_filter {l : List Nat} {p : Nat → Bool} {g : Nat → Int} : sm (l.filter p) g = sm l fun k => if p k = true then g k else 0 := by
  induction l with
  | nil => rfl
  | cons x xs ih =>
    rw [List.filter_cons, sm_cons]
    by_cases c : p x = true
    · rw [if_pos c, if_pos c, sm_cons, ih]
    · rw [if_neg c, if_neg c, ih]; omega
variable {N : Net}
open Classical in
/-- a sum over the roads of one side, house by house -/
theorem sides {n hs : Nat} {b : Nat → Option Nat} {l : Nat → List Nat} (lm : ∀ h k, k ∈ l h ↔ k < n ∧ b k = some h) (ln : ∀ h, (l h).Nodup) (bh : ∀ k h, k < n → b k = some h → h < hs) (P : Nat → Prop) (Q : Nat → Prop) (hQ : ∀ k, Q k ↔ ∃ h, b k = some h ∧ P h) (F : Nat → Int) :
    sm (List.range n) (fun k => if Q k then F k else 0) = sm (List.range hs) (fun h => if P h then sm (l h) F else 0) := by
  have e1 : ∀ h, sm (l h) F = sm (List.range n) (fun k => if b k = some h then F k else 0) := fun h => by
    have p : (l h).Perm ((List.range n).filter fun k => decide (b k = some h)) := (List.perm_ext_iff_of_nodup (ln h) (List.nodup_range.filter _)).mpr fun k => by
      rw [lm, List.mem_filter, List.mem_range, decide_eq_true_iff]
    rw [sm_perm p, sm_filter]
    exact sm_same fun k _ => by simp
  have e2 : sm (List.range hs) (fun h => if P h then sm (l h) F else 0) = sm (List.range hs) (fun h => sm (List.range n) fun k => if P h ∧ b k = some h then F k else 0) := sm_same fun h _ => by
    by_cases c : P h
    · rw [if_pos c, e1]
      exact sm_same fun k _ => by simp [c]
    · rw [if_neg c]
      exact (sm_nul fun k _ => by simp [c]).symm
  rw [e2, sm_swap]
  apply sm_same
  intro k hk
  have hk := List.mem_range.mp hk
  cases hb : b k with
  | none =>
    rw [if_neg (by rw [hQ]; rintro ⟨h, e, _⟩; rw [hb] at e; exact nomatch e)]
    exact (sm_nul fun h _ => by simp).symm
  | some h0 =>
    rw [sm_single List.nodup_range (List.mem_range.mpr (bh k h0 hk hb)) (fun h _ hne => if_neg fun z => hne (Option.some.inj z.2).symm)]
    by_cases c : P h0
    · rw [if_pos ((hQ k).mpr ⟨h0, hb, c⟩), if_pos ⟨c, rfl⟩]
    · rw [if_neg (by rw [hQ]; rintro ⟨h, e, ph⟩; rw [hb] at e; exact c (Option.some.inj e ▸ ph)), if_neg fun z => c z.1]
section
variable {f g : Nat → Int} {S T : Nat → Prop}
end
end Calm

namespace Calm
variable {N : Net} {f g : Nat → Int} {S T : Nat → Prop}
open Classical in
/-- what a house goes by when it likes one of two pairs -/
noncomputable def key (N : Net) (f : Nat → Int) (S : Nat → Prop) (h : Nat) : List Int := if S h then 0 :: 0 :: (N.g h).map f else 1 :: -(sm (N.t h) f) :: (N.g h).map f
end Calm

namespace Fn
open PySem PySem.Spec PyProof.Rows L2 Uv
structure Pr (W : Web) (p : List Int × List Nat) : Prop where
  be : Bears W p.1
  hi : ∀ k, at0 p.1 k ≤ (rd W k).r
  ev : evenB W p.1 = true
  ca : calmB W p.1 p.2 = true
  lo : IsLot W.gives.length p.2
section
variable {W : Web} {p q : List Int × List Nat} {h : Nat}
end
end Fn

namespace Fn
open PySem PySem.Spec PyProof.Rows L2 Uv
section
variable {W : Web} {p q : List Int × List Nat} {h : Nat}
end
end Fn

namespace Fn
open PySem PySem.Spec PyProof.Rows L2 Uv
section
variable {W : Web} {p q : List Int × List Nat} {h : Nat}
structure Sz (W : Web) (p : List Int × List Nat) : Prop where
  len : p.1.length = W.roads.length
  lo : IsLot W.gives.length p.2
end
end Fn

namespace Uv
open PySem PySem.Spec PyProof.Rows L2
end Uv
namespace Fn
open PySem PySem.Spec PyProof.Rows L2 Uv
section
variable {W : Web} {R : List Nat} {f : List Int}
def begs (W : Web) (R : List Nat) : List (Option Nat) := R.map fun k => (rd W k).b
def ends (W : Web) (R : List Nat) : List (Option Nat) := R.map fun k => (rd W k).e
structure RowOk (W : Web) (R : List Nat) : Prop where
  lt : ∀ k ∈ R, k < W.roads.length
  nd : R.Nodup
  bal : (begs W R).Perm (ends W R)
def cnt (o : Option Nat) (c : Int) (l : List (Option Nat)) : Int := (l.map fun x => if x = o then c else 0).sum
structure Chn (W : Web) (R : List Nat) (z : Option Nat) : Prop where
  ne : R ≠ []
  lt : ∀ k ∈ R, k < W.roads.length
  nd : (begs W R).Nodup
  ch : ends W R = (begs W R).tail ++ [z]
end
end Fn

namespace Fn
open PySem PySem.Spec PyProof.Rows L2 Uv
section
variable {W : Web} {R : List Nat} {f : List Int}
structure Stm (W : Web) (f : List Int) : Prop where
  be : Bears W f
  hi : ∀ k, at0 f k ≤ (rd W k).r
  ev : ∀ h, h < W.gives.length → Calm.sm (giv W h) (at0 f) = Calm.sm (tak W h) (at0 f)
end
end Fn

namespace Fn
open PySem PySem.Spec PyProof.Rows L2 Uv
section
variable {W : Web} {R : List Nat} {f : List Int}
end
end Fn

namespace Fn
open PySem PySem.Spec PyProof.Rows L2 Uv
section
variable {W : Web} {R : List Nat} {f : List Int}
structure Bun (W : Web) (R : List Nat) : Prop where
  ok : RowOk W R
  ne : R ≠ []
  inn : cnt none 1 (begs W R) = if (rd W (R.headD 0)).b = none then 1 else 0
end
end Fn

namespace Fn
open PySem PySem.Spec PyProof.Rows L2 Uv
section
variable {W : Web} {R : List Nat} {f g : List Int}
end
end Fn

namespace Fn
open PySem PySem.Spec PyProof.Rows L2 Uv
section
variable {W : Web} {f : List Int}
variable {qs : List (List Nat × Int)}
end
end Fn

namespace Uv
variable {ρ : Env}
end Uv
namespace Fn
open PySem PySem.Spec PyProof.Rows L2 Uv
end Fn

namespace Fn
open PySem PySem.Spec PyProof.Rows L2 Uv
end Fn

namespace Fn
open PySem PySem.Spec PyProof.Rows L2 Uv
section
variable {W : Web} {f : List Int}
end
end Fn

namespace Fn
open PySem PySem.Spec PyProof.Rows L2 Uv
section
variable {W : Web} {f : List Int}
def fstB (W : Web) (f : List Int) (k : Nat) : Bool := match (rd W k).b with
  | none => true
  | some h => lessB f (giv W h) k
def lstB (W : Web) (f : List Int) (k : Nat) : Bool := match (rd W k).e with
  | none => true
  | some h => lessB f (tak W h) k
end
end Fn

namespace Fn
open PySem PySem.Spec PyProof.Rows L2 Uv
section
variable {W : Web} {f : List Int} {lot : List Nat}
end
end Fn

namespace Fn
open PySem PySem.Spec PyProof.Rows L2 Uv
section
variable {W : Web} {f : List Int} {lot : List Nat}
end
end Fn

namespace Fn
open PySem PySem.Spec PyProof.Rows L2 Uv
section
variable {W : Web} {f : List Int}
end
end Fn

namespace Uv
variable {ρ : Env}
end Uv
namespace Fn
open PySem PySem.Spec PyProof.Rows L2 Uv
section
variable {W : Web} {f : List Int}
def Pth (W : Web) (R : List Nat) : Prop := ∀ (i : Nat) (h : i + 1 < R.length), ∃ y, (rd W (R[i]'(by omega))).e = some y ∧ (rd W R[i + 1]).b = some y
structure Wlk (W : Web) (f : List Int) (R : List Nat) : Prop where
  ne : R ≠ []
  opn : ∀ k ∈ R, k < W.roads.length ∧ openB W f k = true
  nd : R.Nodup
  path : Pth W R
  fst : ∀ k, R.head? = some k → fstB W f k = true
  lst : ∀ k, R.getLast? = some k → lstB W f k = true
end
end Fn

namespace Fn
open PySem PySem.Spec PyProof.Rows L2 Uv
section
variable {W : Web} {f : List Int}
end
end Fn

namespace Fn
open PySem PySem.Spec PyProof.Rows L2 Uv
section
variable {W : Web} {f : List Int} {R : List Nat}
end
end Fn

namespace Fn
open PySem PySem.Spec PyProof.Rows L2 Uv
section
variable {W : Web} {f : List Int}
end
end Fn

namespace Fn
open PySem PySem.Spec PyProof.Rows L2 Uv
section
variable {W : Web} {f : List Int} {R : List Nat}
end
end Fn

namespace Fn
open PySem PySem.Spec PyProof.Rows L2 Uv
end Fn

namespace Fn
open PySem PySem.Spec PyProof.Rows L2 Uv
section
variable {W : Web} {f : List Int} {R : List Nat}
end
end Fn

namespace Fn
open PySem PySem.Spec PyProof.Rows L2 Uv
section
variable {W : Web} {f : List Int}
end
end Fn

namespace Fn
open PySem PySem.Spec PyProof.Rows L2 Uv
section
variable {W : Web} {f : List Int}
end
end Fn

namespace Fn
open PySem PySem.Spec PyProof.Rows L2 Uv
section
variable {W : Web} {f : List Int}
end
end Fn

namespace Fn
open PySem PySem.Spec PyProof.Rows L2 Uv
section
variable {W : Web} {f : List Int}
structure Wk (W : Web) (f : List Int) (l : List (Int × PD)) (w : List Nat) : Prop where
  ne : w ≠ []
  path : Pth W w
  fst : ∀ k, w.head? = some k → fstB W f k = true
  mid : ∀ k ∈ w.dropLast, lstB W f k = false ∧ ∃ h : Nat, (rd W k).e = some h ∧ hasD l (h : Int) = true
  nd : (w.dropLast.map fun k => (rd W k).e).Nodup
end
end Fn

namespace Fn
open PySem PySem.Spec PyProof.Rows L2 Uv
structure Thg (d : PD) : Prop where
  sho : Sho 20 100000 d
  len : ∀ ds, d = .tuple ds → ds.length ≤ 30
section
variable {W : Web} {f : List Int}
structure Row (W : Web) (f : List Int) (R : List Nat) : Prop where
  opn : ∀ k ∈ R, k < W.roads.length ∧ openB W f k = true
  nd : R.Nodup
  path : Pth W R
end
end Fn

namespace Fn
open PySem PySem.Spec PyProof.Rows L2 Uv
def lfB (d : PD) : Bool := d.showable && scrF d && decide (d.depth ≤ 1) && decide (d.shown.length ≤ 60) && PyData.strOk d.shown && (match d with | .tuple _ => false | _ => true)
structure Lf (d : PD) : Prop where
  sho : Sho 1 60 d
  no : ∀ ds, d ≠ .tuple ds
theorem Lf.of {d : PD} (h : lfB d = true) : Lf d := by
  unfold lfB at h
  simp only [Bool.and_eq_true, decide_eq_true_eq] at h
  obtain ⟨⟨⟨⟨⟨h1, h2⟩, h3⟩, h4⟩, h5⟩, h6⟩ := h
  exact ⟨⟨h1, h2, h3, h4, h5⟩, fun ds e => by rw [e] at h6; exact nomatch h6⟩
def Bd (l : Nat) : Nat → PD → Prop
  | 0, d => Lf d
  | h + 1, d => Lf d ∨ ∃ ds, (d = .tuple ds ∨ d = .list ds) ∧ ds.length ≤ l ∧ ∀ x ∈ ds, Bd l h x
def bdB (l : Nat) : Nat → PD → Bool
  | 0, d => lfB d
  | h + 1, d => lfB d || match d with
    | .tuple ds => decide (ds.length ≤ l) && ds.all (bdB l h)
    | .list ds => decide (ds.length ≤ l) && ds.all (bdB l h)
    | _ => false
theorem Bd.of {l : Nat} : ∀ {h : Nat} {d : PD}, bdB l h d = true → Bd l h d
  | 0, d, e => Lf.of e
  | h + 1, d, e => by
    rcases Bool.or_eq_true_iff.mp (show (lfB d || _) = true from e) with q | q
    · exact .inl (Lf.of q)
    · cases d with
      | tuple ds =>
        have q : (decide (ds.length ≤ l) && ds.all (bdB l h)) = true := q
        rw [Bool.and_eq_true, List.all_eq_true] at q
        exact .inr ⟨ds, .inl rfl, of_decide_eq_true q.1, fun x hx => Bd.of (q.2 x hx)⟩
      | list ds =>
        have q : (decide (ds.length ≤ l) && ds.all (bdB l h)) = true := q
        rw [Bool.and_eq_true, List.all_eq_true] at q
        exact .inr ⟨ds, .inr rfl, of_decide_eq_true q.1, fun x hx => Bd.of (q.2 x hx)⟩
      | _ => exact nomatch q
def bdN (l : Nat) : Nat → Nat
  | 0 => 60
  | h + 1 => l * (bdN l h + 2) + 63
theorem Bd.sho {l : Nat} : ∀ {h : Nat} {d : PD}, Bd l h d → Sho (1 + h) (bdN l h) d
  | 0, d, q => Lf.sho q
  | h + 1, d, q => by
    have eN : bdN l (h + 1) = l * (bdN l h + 2) + 63 := rfl
    rcases q with q | ⟨ds, e, dl, m⟩
    · exact (Lf.sho q).mono (by omega) (by rw [eN]; omega)
    · rcases e with rfl | rfl
      · exact (Sho.tup (fun x hx => (m x hx).sho) dl).mono (by omega) (by rw [eN]; omega)
      · exact (Sho.lst (fun x hx => (m x hx).sho) dl).mono (by omega) (by rw [eN]; omega)
def oddA : List PD := [.none, .bool true, .bool false, .int 0, .int 1, .int (-1), .int 9, .int 1000000000001, .int 100000000000000000000000000000, .str "", .str "0", .tuple [], .tuple [.int 0], .tuple [.none], .list [], .list [.int 0], .dict [], .tuple [.tuple []]]
theorem oddA_ok : oddA.all (bdB 2 2) = true := by decide +kernel
theorem oddA_bd {d : PD} (h : d ∈ oddA) : Bd 2 2 d := Bd.of (List.all_eq_true.mp oddA_ok d h)
theorem a_odd {b : Nat} {cs : List Cel} {Q : PD × List Cel → Prop} (h : DkA b cs) (hb : b ≤ 2 ^ 40) (hq : ∀ d cs', Bd 2 2 d → DkA (b + 1) cs' → Q (d, cs')) : wp (F__law_odd cs []) (tag Q) := by
  unfold F__law_odd
  refine wp_runW rfl ?_
  unfold X__law_odd
  simp -implicitDefEqProofs
  refine a_next h (by omega) (by omega) (by omega) fun r cs1 hr d1 => ?_
  simp -implicitDefEqProofs
  refine wp_pick (l := oddA) (by show r < 18; omega) fun x hx => ?_
  simp -implicitDefEqProofs
  exact hq x cs1 (oddA_bd hx) d1
end Fn

namespace Fn
open PySem PySem.Spec PyProof.Rows L2 Uv
section
variable {W : Web} {f : List Int}
end
end Fn

namespace Fn
open PySem PySem.Spec PyProof.Rows L2 Uv
section
def rows9 (a b : PD) : List (Nat × List PD × List PD) := [(1, [b, a], [a, b]), (2, [], []), (3, [], []), (4, [], []), (5, [], []), (6, [a], [a]), (7, [], []), (8, [], []), (9, [], []), (10, [], []), (11, [a], [a]), (12, [], []), (13, [], []), (14, [a], [a]), (15, [a], [a]), (16, [a], [a]), (17, [a], [a]), (18, [a], [a]), (19, [a], [a]), (20, [a], [a]), (21, [a], [a])]
def row9 (x : Nat × List PD × List PD) : PD := .tuple [heldD x.1 x.2.1, .list x.2.2, .list x.2.2]
theorem made9 {a b : PD} : F__law_made_b [a, b] = some (.list ((rows9 a b).map row9)) := by
  unfold F__law_made_b X__law_made_b
  kernel_rfl
def kinds9 (n : Nat) : PD := .list ((List.range 21).map fun j => .bool (j + 1 == n))
theorem kinds9_at : ∀ (n : Nat), 1 ≤ n → n ≤ 21 → ∀ ds : List PD, F__law_kinds_b [heldD n ds] = some (kinds9 n)
  | 0, h, _, _ => absurd h (by omega)
  | 1, _, _, ds => by unfold F__law_kinds_b X__law_kinds_b; kernel_rfl
  | 2, _, _, ds => by unfold F__law_kinds_b X__law_kinds_b; kernel_rfl
  | 3, _, _, ds => by unfold F__law_kinds_b X__law_kinds_b; kernel_rfl
  | 4, _, _, ds => by unfold F__law_kinds_b X__law_kinds_b; kernel_rfl
  | 5, _, _, ds => by unfold F__law_kinds_b X__law_kinds_b; kernel_rfl
  | 6, _, _, ds => by unfold F__law_kinds_b X__law_kinds_b; kernel_rfl
  | 7, _, _, ds => by unfold F__law_kinds_b X__law_kinds_b; kernel_rfl
  | 8, _, _, ds => by unfold F__law_kinds_b X__law_kinds_b; kernel_rfl
  | 9, _, _, ds => by unfold F__law_kinds_b X__law_kinds_b; kernel_rfl
  | 10, _, _, ds => by unfold F__law_kinds_b X__law_kinds_b; kernel_rfl
  | 11, _, _, ds => by unfold F__law_kinds_b X__law_kinds_b; kernel_rfl
  | 12, _, _, ds => by unfold F__law_kinds_b X__law_kinds_b; kernel_rfl
  | 13, _, _, ds => by unfold F__law_kinds_b X__law_kinds_b; kernel_rfl
  | 14, _, _, ds => by unfold F__law_kinds_b X__law_kinds_b; kernel_rfl
  | 15, _, _, ds => by unfold F__law_kinds_b X__law_kinds_b; kernel_rfl
  | 16, _, _, ds => by unfold F__law_kinds_b X__law_kinds_b; kernel_rfl
  | 17, _, _, ds => by unfold F__law_kinds_b X__law_kinds_b; kernel_rfl
  | 18, _, _, ds => by unfold F__law_kinds_b X__law_kinds_b; kernel_rfl
  | 19, _, _, ds => by unfold F__law_kinds_b X__law_kinds_b; kernel_rfl
  | 20, _, _, ds => by unfold F__law_kinds_b X__law_kinds_b; kernel_rfl
  | 21, _, _, ds => by unfold F__law_kinds_b X__law_kinds_b; kernel_rfl
  | n + 22, _, h, _ => absurd h (by omega)
theorem ks9 {i : Nat} : PyData.list ((List.range 21).map fun k => .bool (k == i)) = kinds9 (i + 1) := by
  unfold kinds9
  congr 2
  funext k
  congr 1
  rw [Bool.eq_iff_iff]
  simp
theorem ne9 (n : Nat) : neP (kinds9 n) (kinds9 n) = some (.bool false) := by
  have l : Lay 60 (kinds9 n) := (Lay.lst (k := 59) fun d hd => by obtain ⟨x, _, rfl⟩ := List.mem_map.mp hd; exact ⟨rfl, Nat.zero_le _⟩)
  rw [neP_lay l l, SeqAt.eqv_refl _ l.cl]
  rfl
theorem web9 : ∀ n, 1 ≤ n → n ≤ 21 → it_k09_WebError n = some (decide (n ≤ 16)) ∧ it_k09_ValueError n = some (decide (n ≤ 16)) ∧ it_k09_LookupError n = some (decide (16 < n)) := by
  intro n h1 h2
  have : ∀ n < 22, 1 ≤ n → it_k09_WebError n = some (decide (n ≤ 16)) ∧ it_k09_ValueError n = some (decide (n ≤ 16)) ∧ it_k09_LookupError n = some (decide (16 < n)) := by decide
  exact this n (by omega) h1
theorem at9 {a b : PD} {i : Nat} (h : i < (rows9 a b).length) : ∃ ds fs, (rows9 a b)[i] = (i + 1, ds, fs) ∧ i < 21 ∧ fs.length ≤ 2 ∧ ∀ x ∈ fs, x = a ∨ x = b := by
  have h : i < 21 := h
  have : ∀ i : Nat, ∀ h : i < 21, ∃ ds fs, (rows9 a b)[i] = (i + 1, ds, fs) ∧ fs.length ≤ 2 ∧ ∀ x ∈ fs, x = a ∨ x = b := by
    intro i h
    rcases i with _ | _ | _ | _ | _ | _ | _ | _ | _ | _ | _ | _ | _ | _ | _ | _ | _ | _ | _ | _ | _ | i <;> first | exact ⟨_, _, rfl, by simp, by simp⟩ | omega
  obtain ⟨ds, fs, e, l, m⟩ := this i h
  exact ⟨ds, fs, e, h, l, m⟩
end
theorem ne9a : neP (.list [.int 8, .int 20, .int 1000000000000, .int 28, .int 36, .int 1000000000000000]) (.list [.int 8, .int 20, .int 1000000000000, .int 28, .int 36, .int 1000000000000000]) = some (.bool false) := by kernel_rfl
theorem ne9b : neP (.list [.int 4096, .int 60, .int 20]) (.list [.int 4096, .int 60, .int 20]) = some (.bool false) := by kernel_rfl
theorem k09 (ns : List Int) (h : ns.length ≤ 63) : F_law_z197 [scrD (ns.map PyData.int)] = some (.bool true) := by
  refine eq_of_wp ?_
  unfold F_law_z197
  refine wp_runP rfl ?_
  unfold X_law_z197
  simp -implicitDefEqProofs
  refine a_deck h fun cs d => ?_
  simp -implicitDefEqProofs [ne9a, ne9b]
  refine wp_forR (n := 6) (fun k ρ => ∃ (cs : List Cel) (z2 z3 z4 z5 z6 z7 z8 : Sl), ρ = [.dat (scrD (ns.map PyData.int)), .own cs, z2, z3, z4, z5, z6, z7, z8] ∧ DkA (2 * k) cs) ⟨cs, _, _, _, _, _, _, _, rfl, d⟩ ?_ ?_
  · rintro k hk ρ ⟨cs, z2, z3, z4, z5, z6, z7, z8, rfl, d⟩
    unfold X_law_z197_b2
    simp -implicitDefEqProofs
    refine a_odd d (by omega) fun a cs1 ha d1 => ?_
    simp -implicitDefEqProofs
    refine a_odd d1 (by omega) fun b cs2 hb d2 => ?_
    simp -implicitDefEqProofs [made9]
    refine wp_forE (l := rows9 a b) (enc := row9) (fun i ρ => ∃ (z3 z4 z5 z6 z7 z8 : Sl), ρ = [.dat (scrD (ns.map PyData.int)), .own cs2, .dat (natD k), z3, z4, z5, z6, z7, z8]) ⟨_, _, _, _, _, _, rfl⟩ ?_ ?_
    · rintro i hi ρ ⟨z3, z4, z5, z6, z7, z8, rfl⟩
      obtain ⟨ds, fs, e, h21, fl, fm⟩ := at9 hi
      rw [e]
      have sh : Sho 60 10000000 (.list fs) := by
        refine (Sho.lst (k := 3) (n := bdN 2 2) (L := 2) (fun d hd => ?_) fl).mono (by omega) (by decide)
        rcases fm d hd with rfl | rfl
        · exact ha.sho
        · exact hb.sho
      have ks := kinds9_at (i + 1) (by omega) (by omega) ds
      obtain ⟨w1, w2, w3⟩ := web9 (i + 1) (by omega) (by omega)
      unfold row9 X_law_z197_b1
      simp -implicitDefEqProofs [rp_of sh, ne_shown sh, ks]
      refine wp_lcT (fun j => .bool (j == i)) (fun j hj => by
        have eq : eqP (natD j) (natD i) = some (.bool (j == i)) := by
          rw [eqP_lay (Lay.int (k := 60)) (Lay.int (k := 60))]
          congr 2
          show ((j : Int) == (i : Int)) = (j == i)
          rw [Bool.eq_iff_iff]
          simp
          omega
        simp -implicitDefEqProofs [eq]) ?_
      rw [ks9]
      have tf : eqP (.bool true) (.bool false) = some (.bool false) := by kernel_rfl
      have ft : eqP (.bool false) (.bool true) = some (.bool false) := by kernel_rfl
      have nf : neP (.bool false) (.bool false) = some (.bool false) := by kernel_rfl
      have nt : neP (.bool true) (.bool true) = some (.bool false) := by kernel_rfl
      by_cases c : 16 ≤ i
      · rw [decide_eq_false (show ¬ i + 1 ≤ 16 by omega)] at w1 w2
        rw [decide_eq_true (show 16 < i + 1 by omega)] at w3
        have e15 : decide (15 < (i : Int)) = true := decide_eq_true (by omega)
        simp -implicitDefEqProofs [ne9, e15, w1, w2, w3, tf, ft, nf, nt]
        exact ⟨_, _, _, _, _, _, rfl⟩
      · rw [decide_eq_true (show i + 1 ≤ 16 by omega)] at w1 w2
        rw [decide_eq_false (show ¬ 16 < i + 1 by omega)] at w3
        have e15 : decide (15 < (i : Int)) = false := decide_eq_false (by omega)
        simp -implicitDefEqProofs [ne9, e15, w1, w2, w3, tf, ft, nf, nt]
        exact ⟨_, _, _, _, _, _, rfl⟩
    · rintro ρ ⟨z3, z4, z5, z6, z7, z8, rfl⟩
      simp -implicitDefEqProofs
      exact ⟨cs2, _, _, _, _, _, _, _, rfl, d2.mono (by omega)⟩
  · rintro ρ ⟨cs, z2, z3, z4, z5, z6, z7, z8, rfl, d⟩
    simp -implicitDefEqProofs
end Fn



namespace Row
open PySem PySem.Spec PyProof.Rows L2 Uv Fn Hed
abbrev N__law_deck : List Str := ["_law_script", "_law_cells", "_law_cell"]
theorem sc__law_deck : FnScope N__law_deck ["_law_script"] (defScope s__law_deck) := ⟨rfl, rfl, rfl, by decide +kernel, rfl, by decide +kernel, by decide +kernel⟩
abbrev N__law_kinds : List Str := ["_law_e", "_law_some"]
theorem sc__law_kinds : FnScope N__law_kinds ["_law_e"] (defScope s__law_kinds) := ⟨rfl, rfl, rfl, by decide +kernel, rfl, by decide +kernel, by decide +kernel⟩
abbrev N__law_made : List Str := ["_law_odd_here", "_law_more", "_law_one", "_law_two", "_law_found", "_law_far"]
theorem sc__law_made : FnScope N__law_made ["_law_odd_here", "_law_more"] (defScope s__law_made) := ⟨rfl, rfl, rfl, by decide +kernel, rfl, by decide +kernel, by decide +kernel⟩
abbrev N__law_next : List Str := ["_law_deck_here", "_law_many", "_law_rest", "_law_cell", "_law_mixed"]
theorem sc__law_next : FnScope N__law_next ["_law_deck_here", "_law_many"] (defScope s__law_next) := ⟨rfl, rfl, rfl, by decide +kernel, rfl, by decide +kernel, by decide +kernel⟩
abbrev N__law_odd : List Str := ["_law_deck_here", "_law_some"]
theorem sc__law_odd : FnScope N__law_odd ["_law_deck_here"] (defScope s__law_odd) := ⟨rfl, rfl, rfl, by decide +kernel, rfl, by decide +kernel, by decide +kernel⟩
abbrev N_law : List Str := ["_law_script", "_law_deck_here", "_law_turn", "_law_at", "_law_error", "_law_fields", "_law_due", "_law_is_look", "_law_k"]
theorem sc_law : FnScope N_law ["_law_script"] (defScope s_law) := ⟨rfl, rfl, rfl, by decide +kernel, rfl, by decide +kernel, by decide +kernel⟩
theorem fnScope_BadWeb : FnScope ["self", "path", "word"] ["self", "path", "word"] (defScope s_initBadWeb) := ⟨rfl, rfl, rfl, by decide +kernel, rfl, by decide +kernel, by decide +kernel⟩
theorem fnScope_TooMany : FnScope ["self", "bound"] ["self", "bound"] (defScope s_initTooMany) := ⟨rfl, rfl, rfl, by decide +kernel, rfl, by decide +kernel, by decide +kernel⟩
theorem fnScope_Broken : FnScope ["self", "number"] ["self", "number"] (defScope s_initBroken) := ⟨rfl, rfl, rfl, by decide +kernel, rfl, by decide +kernel, by decide +kernel⟩
theorem fnScope_NoRoom : FnScope ["self", "room"] ["self", "room"] (defScope s_initNoRoom) := ⟨rfl, rfl, rfl, by decide +kernel, rfl, by decide +kernel, by decide +kernel⟩
theorem fnScope_NoStream : FnScope ["self", "fault"] ["self", "fault"] (defScope s_initNoStream) := ⟨rfl, rfl, rfl, by decide +kernel, rfl, by decide +kernel, by decide +kernel⟩
theorem fnScope_NoText : FnScope ["self", "line"] ["self", "line"] (defScope s_initNoText) := ⟨rfl, rfl, rfl, by decide +kernel, rfl, by decide +kernel, by decide +kernel⟩
theorem fnScope_NoDoor : FnScope ["self", "road"] ["self", "road"] (defScope s_initNoDoor) := ⟨rfl, rfl, rfl, by decide +kernel, rfl, by decide +kernel, by decide +kernel⟩
theorem fnScope_NoRoad : FnScope ["self", "road"] ["self", "road"] (defScope s_initNoRoad) := ⟨rfl, rfl, rfl, by decide +kernel, rfl, by decide +kernel, by decide +kernel⟩
theorem fnScope_NoHouse : FnScope ["self", "house"] ["self", "house"] (defScope s_initNoHouse) := ⟨rfl, rfl, rfl, by decide +kernel, rfl, by decide +kernel, by decide +kernel⟩
theorem fnScope_NoEnd : FnScope ["self", "end"] ["self", "end"] (defScope s_initNoEnd) := ⟨rfl, rfl, rfl, by decide +kernel, rfl, by decide +kernel, by decide +kernel⟩
theorem fnScope_NoMoment : FnScope ["self", "number"] ["self", "number"] (defScope s_initNoMoment) := ⟨rfl, rfl, rfl, by decide +kernel, rfl, by decide +kernel, by decide +kernel⟩
structure Bm (mg : Str → Option Value) : Prop where
  n_LookupError : mg "LookupError" = none
  n_ValueError : mg "ValueError" = none
  n_abs : mg "abs" = none
  n_enumerate : mg "enumerate" = none
  n_isinstance : mg "isinstance" = none
  n_len : mg "len" = none
  n_range : mg "range" = none
  n_repr : mg "repr" = none
section
variable [kk : KK] {P : Program} {w : World} {mg : Str → Option Value} {base : Heap} {cA : Nat → Addr} {dA : Addr}
structure HR (P : Program) (w : World) (mg : Str → Option Value) (base : Heap) (cA : Nat → Addr) : Prop where
  v_BadWeb : InitOk2 P w K mg base "BadWeb" (cA 1) "path" "word"
  v_TooMany : InitOk P w K mg base "TooMany" (cA 6) "bound"
  v_Broken : InitOk P w K mg base "Broken" (cA 11) "number"
  v_NoRoom : InitOk P w K mg base "NoRoom" (cA 14) "room"
  v_NoStream : InitOk P w K mg base "NoStream" (cA 15) "fault"
  v_NoText : InitOk P w K mg base "NoText" (cA 16) "line"
  v_NoDoor : InitL P w K mg base "NoDoor" (cA 17) "road"
  v_NoRoad : InitL P w K mg base "NoRoad" (cA 18) "road"
  v_NoHouse : InitL P w K mg base "NoHouse" (cA 19) "house"
  v_NoEnd : InitL P w K mg base "NoEnd" (cA 20) "end"
  v_NoMoment : InitL P w K mg base "NoMoment" (cA 21) "number"
theorem eq_F__law_deck_h : F__law_deck_h = runD 1 2 X__law_deck_h := by unfold F__law_deck_h; rfl
theorem c__law_deck (F : Dfn K mg "_law_deck" s__law_deck ["_law_script"]) (B : Bm mg) : CalG P w K mg base 1 "_law_deck" (spD F__law_deck_h) := by
  rw [eq_F__law_deck_h]
  refine cal_g F sc__law_deck (fun vs H Q E h => len_D h) (fun f cdv A outer s H E hG hr => ⟨T__law_deck_h, ?_, fun vs Q h => go_D (n := 1) (k := 2) (ss__law_deck_h) rfl h⟩)
  unfold T__law_deck_h
  exact pss_cons (ps_setLc (i := 1) (own := [("_law_cell", 2)]) rfl sc__law_deck.nd rfl rfl (sw_true rfl rfl rfl (by decide +kernel)) (PI.or (pi_list (pv 0)) (pi_tup (pv 0))) (blkOk_by (N := N__law_deck) (sc := defScope s__law_deck) (by decide +kernel)) (fun _ _ _ _ _ => (pg_name (i := 2) sc__law_deck.nd rfl (.inl rfl))) (fun _ _ _ _ _ => pts_nil) (fun _ _ _ _ _ => pe_callB call_abs (by rfl) B.n_abs (by decide +kernel) (pa_cons (pv 2) pa_nil)))
      (pss_one (ps_ret (pe_lst (pa_cons (pe_lc (own := [("_law_cell", 2)]) rfl sc__law_deck.nd (PI.or (pi_list (pv 1)) (pi_tup (pv 1))) (blkOk_by (N := N__law_deck) (sc := defScope s__law_deck) (by decide +kernel)) (fun _ _ _ _ _ => (pg_name (i := 2) sc__law_deck.nd rfl (.inl rfl))) (fun _ _ _ _ _ => pts_one (pt_cmpR op_ge (pv 2) (pe_op op_pow pe_int pe_int) (nomark _))) (fun _ _ _ _ _ => (pv 2))) (pa_cons (pe_op op_addU (pv 1) (pe_lst (pa_cons (pe_op op_addU (pe_callB call_len_seq (by rfl) B.n_len (by decide +kernel) (pa_cons (pv 1) pa_nil)) pe_int) pa_nil))) (pa_cons pe_int pa_nil))))))
theorem eq_F__law_kinds_b : F__law_kinds_b = runP 1 1 X__law_kinds_b := by unfold F__law_kinds_b; rfl
theorem c__law_kinds (F : Dfn K mg "_law_kinds" s__law_kinds ["_law_e"]) (B : Bm mg) (Z : HF mg w cA dA) (V : HR P w mg base cA) : CalG P w K mg base 1 "_law_kinds" (spF F__law_kinds_b) := by
  rw [eq_F__law_kinds_b]
  refine cal_g F sc__law_kinds (fun vs H Q E h => len_F h) (fun f cdv A outer s H E hG hr => ⟨T__law_kinds_b w cA dA, ?_, fun vs Q h => go_P (n := 1) (k := 1) (ss__law_kinds_b Z) rfl h⟩)
  unfold T__law_kinds_b
  exact pss_cons (ps_set (i := 1) sc__law_kinds.nd rfl (.inl rfl) (pe_lst (pa_cons (pe_callB call_isX (by rfl) B.n_isinstance (by decide +kernel) (pa_cons (pv 0) (pa_cons (pe_glob (v := .ref (cA 1)) (by rfl) Z.g_BadWeb rfl) pa_nil))) (pa_cons (pe_callB call_isX (by rfl) B.n_isinstance (by decide +kernel) (pa_cons (pv 0) (pa_cons (pe_glob (v := .ref (cA 2)) (by rfl) Z.g_TooGreat rfl) pa_nil))) (pa_cons (pe_callB call_isX (by rfl) B.n_isinstance (by decide +kernel) (pa_cons (pv 0) (pa_cons (pe_glob (v := .ref (cA 3)) (by rfl) Z.g_Full rfl) pa_nil))) (pa_cons (pe_callB call_isX (by rfl) B.n_isinstance (by decide +kernel) (pa_cons (pv 0) (pa_cons (pe_glob (v := .ref (cA 4)) (by rfl) Z.g_NoRoads rfl) pa_nil))) pa_nil))))))
      (pss_cons (ps_set (i := 1) sc__law_kinds.nd rfl (.inl rfl) (pe_op op_addU (pv 1) (pe_lst (pa_cons (pe_callB call_isX (by rfl) B.n_isinstance (by decide +kernel) (pa_cons (pv 0) (pa_cons (pe_glob (v := .ref (cA 5)) (by rfl) Z.g_BadOrder rfl) pa_nil))) (pa_cons (pe_callB call_isX (by rfl) B.n_isinstance (by decide +kernel) (pa_cons (pv 0) (pa_cons (pe_glob (v := .ref (cA 6)) (by rfl) Z.g_TooMany rfl) pa_nil))) (pa_cons (pe_callB call_isX (by rfl) B.n_isinstance (by decide +kernel) (pa_cons (pv 0) (pa_cons (pe_glob (v := .ref (cA 7)) (by rfl) Z.g_Long rfl) pa_nil))) (pa_cons (pe_callB call_isX (by rfl) B.n_isinstance (by decide +kernel) (pa_cons (pv 0) (pa_cons (pe_glob (v := .ref (cA 8)) (by rfl) Z.g_Busy rfl) pa_nil))) pa_nil)))))))
      (pss_cons (ps_set (i := 1) sc__law_kinds.nd rfl (.inl rfl) (pe_op op_addU (pv 1) (pe_lst (pa_cons (pe_callB call_isX (by rfl) B.n_isinstance (by decide +kernel) (pa_cons (pv 0) (pa_cons (pe_glob (v := .ref (cA 9)) (by rfl) Z.g_NothingBack rfl) pa_nil))) (pa_cons (pe_callB call_isX (by rfl) B.n_isinstance (by decide +kernel) (pa_cons (pv 0) (pa_cons (pe_glob (v := .ref (cA 10)) (by rfl) Z.g_NoDeeds rfl) pa_nil))) (pa_cons (pe_callB call_isX (by rfl) B.n_isinstance (by decide +kernel) (pa_cons (pv 0) (pa_cons (pe_glob (v := .ref (cA 11)) (by rfl) Z.g_Broken rfl) pa_nil))) (pa_cons (pe_callB call_isX (by rfl) B.n_isinstance (by decide +kernel) (pa_cons (pv 0) (pa_cons (pe_glob (v := .ref (cA 12)) (by rfl) Z.g_Last rfl) pa_nil))) pa_nil)))))))
      (pss_cons (ps_set (i := 1) sc__law_kinds.nd rfl (.inl rfl) (pe_op op_addU (pv 1) (pe_lst (pa_cons (pe_callB call_isX (by rfl) B.n_isinstance (by decide +kernel) (pa_cons (pv 0) (pa_cons (pe_glob (v := .ref (cA 13)) (by rfl) Z.g_Held rfl) pa_nil))) (pa_cons (pe_callB call_isX (by rfl) B.n_isinstance (by decide +kernel) (pa_cons (pv 0) (pa_cons (pe_glob (v := .ref (cA 14)) (by rfl) Z.g_NoRoom rfl) pa_nil))) (pa_cons (pe_callB call_isX (by rfl) B.n_isinstance (by decide +kernel) (pa_cons (pv 0) (pa_cons (pe_glob (v := .ref (cA 15)) (by rfl) Z.g_NoStream rfl) pa_nil))) (pa_cons (pe_callB call_isX (by rfl) B.n_isinstance (by decide +kernel) (pa_cons (pv 0) (pa_cons (pe_glob (v := .ref (cA 16)) (by rfl) Z.g_NoText rfl) pa_nil))) pa_nil)))))))
      (pss_one (ps_ret (pe_op op_addU (pv 1) (pe_lst (pa_cons (pe_callB call_isX (by rfl) B.n_isinstance (by decide +kernel) (pa_cons (pv 0) (pa_cons (pe_glob (v := .ref (cA 17)) (by rfl) Z.g_NoDoor rfl) pa_nil))) (pa_cons (pe_callB call_isX (by rfl) B.n_isinstance (by decide +kernel) (pa_cons (pv 0) (pa_cons (pe_glob (v := .ref (cA 18)) (by rfl) Z.g_NoRoad rfl) pa_nil))) (pa_cons (pe_callB call_isX (by rfl) B.n_isinstance (by decide +kernel) (pa_cons (pv 0) (pa_cons (pe_glob (v := .ref (cA 19)) (by rfl) Z.g_NoHouse rfl) pa_nil))) (pa_cons (pe_callB call_isX (by rfl) B.n_isinstance (by decide +kernel) (pa_cons (pv 0) (pa_cons (pe_glob (v := .ref (cA 20)) (by rfl) Z.g_NoEnd rfl) pa_nil))) (pa_cons (pe_callB call_isX (by rfl) B.n_isinstance (by decide +kernel) (pa_cons (pv 0) (pa_cons (pe_glob (v := .ref (cA 21)) (by rfl) Z.g_NoMoment rfl) pa_nil))) pa_nil))))))))))))
theorem eq_F__law_made_b : F__law_made_b = runP 2 4 X__law_made_b := by unfold F__law_made_b; rfl
theorem c__law_made (F : Dfn K mg "_law_made" s__law_made ["_law_odd_here", "_law_more"]) (B : Bm mg) (Z : HF mg w cA dA) (V : HR P w mg base cA) : CalG P w K mg base 3 "_law_made" (spF F__law_made_b) := by
  rw [eq_F__law_made_b]
  refine cal_g F sc__law_made (fun vs H Q E h => len_F h) (fun f cdv A outer s H E hG hr => ⟨T__law_made_b w cA dA, ?_, fun vs Q h => go_P (n := 2) (k := 4) (ss__law_made_b Z) rfl h⟩)
  unfold T__law_made_b
  exact pss_cons (ps_par (i := 2) (j := 3) rfl sc__law_made.nd rfl rfl (by decide) rfl rfl (pa_cons (pe_xvI2 V.v_BadWeb hr (by decide) (by rfl) (pv 0) (pv 1)) (pa_cons (pe_xvI V.v_TooMany hr (by decide) (by rfl) (pv 0)) pa_nil)) rfl)
      (pss_cons (ps_set (i := 4) sc__law_made.nd rfl (.inl rfl) (pe_lst (pa_cons (pe_tupF (pa_cons (pv 2) (pa_cons (pe_lst (pa_cons (pe_xat (pv 2)) (pa_cons (pe_xat (pv 2)) pa_nil))) (pa_cons (pe_lst (pa_cons (pv 0) (pa_cons (pv 1) pa_nil))) pa_nil)))) (pa_cons (pe_tupF (pa_cons (pe_xv (pmk_own0 PySem.F.excBase_ValueError Z.x_TooGreat Z.g_TooGreat Z.k_TooGreat (raises_own Z.b_TooGreat Z.t_TooGreat) (by rfl))) (pa_cons (pe_lst pa_nil) (pa_cons (pe_lst pa_nil) pa_nil)))) (pa_cons (pe_tupF (pa_cons (pe_xv (pmk_own0 PySem.F.excBase_ValueError Z.x_Full Z.g_Full Z.k_Full (raises_own Z.b_Full Z.t_Full) (by rfl))) (pa_cons (pe_lst pa_nil) (pa_cons (pe_lst pa_nil) pa_nil)))) (pa_cons (pe_tupF (pa_cons (pe_xv (pmk_own0 PySem.F.excBase_ValueError Z.x_NoRoads Z.g_NoRoads Z.k_NoRoads (raises_own Z.b_NoRoads Z.t_NoRoads) (by rfl))) (pa_cons (pe_lst pa_nil) (pa_cons (pe_lst pa_nil) pa_nil)))) pa_nil))))))
      (pss_cons (ps_set (i := 4) sc__law_made.nd rfl (.inl rfl) (pe_op op_addU (pv 4) (pe_lst (pa_cons (pe_tupF (pa_cons (pe_xv (pmk_own0 PySem.F.excBase_ValueError Z.x_BadOrder Z.g_BadOrder Z.k_BadOrder (raises_own Z.b_BadOrder Z.t_BadOrder) (by rfl))) (pa_cons (pe_lst pa_nil) (pa_cons (pe_lst pa_nil) pa_nil)))) (pa_cons (pe_tupF (pa_cons (pv 3) (pa_cons (pe_lst (pa_cons (pe_xat (pv 3)) pa_nil)) (pa_cons (pe_lst (pa_cons (pv 0) pa_nil)) pa_nil)))) (pa_cons (pe_tupF (pa_cons (pe_xv (pmk_own0 PySem.F.excBase_ValueError Z.x_Long Z.g_Long Z.k_Long (raises_own Z.b_Long Z.t_Long) (by rfl))) (pa_cons (pe_lst pa_nil) (pa_cons (pe_lst pa_nil) pa_nil)))) (pa_cons (pe_tupF (pa_cons (pe_xv (pmk_own0 PySem.F.excBase_ValueError Z.x_Busy Z.g_Busy Z.k_Busy (raises_own Z.b_Busy Z.t_Busy) (by rfl))) (pa_cons (pe_lst pa_nil) (pa_cons (pe_lst pa_nil) pa_nil)))) pa_nil)))))))
      (pss_cons (Uv.ps_par3 (i := 2) (j := 3) (k := 5) rfl sc__law_made.nd rfl rfl rfl (by decide) (by decide) (by decide) rfl rfl rfl (pa_cons (pe_xvI V.v_Broken hr (by decide) (by rfl) (pv 0)) (pa_cons (pe_xvI V.v_NoRoom hr (by decide) (by rfl) (pv 0)) (pa_cons (pe_xvI V.v_NoStream hr (by decide) (by rfl) (pv 0)) pa_nil))) rfl)
      (pss_cons (ps_set (i := 4) sc__law_made.nd rfl (.inl rfl) (pe_op op_addU (pv 4) (pe_lst (pa_cons (pe_tupF (pa_cons (pe_xv (pmk_own0 PySem.F.excBase_ValueError Z.x_NothingBack Z.g_NothingBack Z.k_NothingBack (raises_own Z.b_NothingBack Z.t_NothingBack) (by rfl))) (pa_cons (pe_lst pa_nil) (pa_cons (pe_lst pa_nil) pa_nil)))) (pa_cons (pe_tupF (pa_cons (pe_xv (pmk_own0 PySem.F.excBase_ValueError Z.x_NoDeeds Z.g_NoDeeds Z.k_NoDeeds (raises_own Z.b_NoDeeds Z.t_NoDeeds) (by rfl))) (pa_cons (pe_lst pa_nil) (pa_cons (pe_lst pa_nil) pa_nil)))) (pa_cons (pe_tupF (pa_cons (pv 2) (pa_cons (pe_lst (pa_cons (pe_xat (pv 2)) pa_nil)) (pa_cons (pe_lst (pa_cons (pv 0) pa_nil)) pa_nil)))) (pa_cons (pe_tupF (pa_cons (pe_xv (pmk_own0 PySem.F.excBase_ValueError Z.x_Last Z.g_Last Z.k_Last (raises_own Z.b_Last Z.t_Last) (by rfl))) (pa_cons (pe_lst pa_nil) (pa_cons (pe_lst pa_nil) pa_nil)))) pa_nil)))))))
      (pss_cons (ps_set (i := 4) sc__law_made.nd rfl (.inl rfl) (pe_op op_addU (pv 4) (pe_lst (pa_cons (pe_tupF (pa_cons (pe_xv (pmk_own0 PySem.F.excBase_ValueError Z.x_Held Z.g_Held Z.k_Held (raises_own Z.b_Held Z.t_Held) (by rfl))) (pa_cons (pe_lst pa_nil) (pa_cons (pe_lst pa_nil) pa_nil)))) (pa_cons (pe_tupF (pa_cons (pv 3) (pa_cons (pe_lst (pa_cons (pe_xat (pv 3)) pa_nil)) (pa_cons (pe_lst (pa_cons (pv 0) pa_nil)) pa_nil)))) (pa_cons (pe_tupF (pa_cons (pv 5) (pa_cons (pe_lst (pa_cons (pe_xat (pv 5)) pa_nil)) (pa_cons (pe_lst (pa_cons (pv 0) pa_nil)) pa_nil)))) pa_nil))))))
      (pss_cons (Uv.ps_par3 (i := 2) (j := 3) (k := 5) rfl sc__law_made.nd rfl rfl rfl (by decide) (by decide) (by decide) rfl rfl rfl (pa_cons (pe_xvI V.v_NoText hr (by decide) (by rfl) (pv 0)) (pa_cons (pe_xvL V.v_NoDoor hr (by decide) (by rfl) (pv 0)) (pa_cons (pe_xvL V.v_NoRoad hr (by decide) (by rfl) (pv 0)) pa_nil))) rfl)
      (pss_cons (ps_set (i := 4) sc__law_made.nd rfl (.inl rfl) (pe_op op_addU (pv 4) (pe_lst (pa_cons (pe_tupF (pa_cons (pv 2) (pa_cons (pe_lst (pa_cons (pe_xat (pv 2)) pa_nil)) (pa_cons (pe_lst (pa_cons (pv 0) pa_nil)) pa_nil)))) (pa_cons (pe_tupF (pa_cons (pv 3) (pa_cons (pe_lst (pa_cons (pe_xat (pv 3)) pa_nil)) (pa_cons (pe_lst (pa_cons (pv 0) pa_nil)) pa_nil)))) (pa_cons (pe_tupF (pa_cons (pv 5) (pa_cons (pe_lst (pa_cons (pe_xat (pv 5)) pa_nil)) (pa_cons (pe_lst (pa_cons (pv 0) pa_nil)) pa_nil)))) pa_nil))))))
      (pss_cons (Uv.ps_par3 (i := 2) (j := 3) (k := 5) rfl sc__law_made.nd rfl rfl rfl (by decide) (by decide) (by decide) rfl rfl rfl (pa_cons (pe_xvL V.v_NoHouse hr (by decide) (by rfl) (pv 0)) (pa_cons (pe_xvL V.v_NoEnd hr (by decide) (by rfl) (pv 0)) (pa_cons (pe_xvL V.v_NoMoment hr (by decide) (by rfl) (pv 0)) pa_nil))) rfl)
      (pss_one (ps_ret (pe_op op_addU (pv 4) (pe_lst (pa_cons (pe_tupF (pa_cons (pv 2) (pa_cons (pe_lst (pa_cons (pe_xat (pv 2)) pa_nil)) (pa_cons (pe_lst (pa_cons (pv 0) pa_nil)) pa_nil)))) (pa_cons (pe_tupF (pa_cons (pv 3) (pa_cons (pe_lst (pa_cons (pe_xat (pv 3)) pa_nil)) (pa_cons (pe_lst (pa_cons (pv 0) pa_nil)) pa_nil)))) (pa_cons (pe_tupF (pa_cons (pv 5) (pa_cons (pe_lst (pa_cons (pe_xat (pv 5)) pa_nil)) (pa_cons (pe_lst (pa_cons (pv 0) pa_nil)) pa_nil)))) pa_nil)))))))))))))))
theorem eq_F__law_next : F__law_next = runW 1 3 X__law_next := by unfold F__law_next; rfl
theorem c__law_next (F : Dfn K mg "_law_next" s__law_next ["_law_deck_here", "_law_many"]) (B : Bm mg) : CalG P w K mg base 1 "_law_next" (spW F__law_next) := by
  rw [eq_F__law_next]
  refine cal_g F sc__law_next (fun vs H Q E h => len_W h) (fun f cdv A outer s H E hG hr => ⟨T__law_next, ?_, fun vs Q h => go_W (n := 1) (k := 3) (ss__law_next) rfl h⟩)
  unfold T__law_next
  exact pss_cons (ps_while PassesOwn.never (pt_cmpR (op_neD hr.units) (pe_ix ix_seq (pv 0) pe_int (fun _ _ => rfl)) (pe_lst pa_nil) (nomark _)) (pss_cons (ps_set (i := 2) sc__law_next.nd rfl (.inl rfl) (pe_ix ix_seq (pe_ix ix_seq (pv 0) pe_int (fun _ _ => rfl)) pe_int (fun _ _ => rfl)))
      (pss_cons (ps_if (pt_cmpR (op_gtU hr.units) (pv 2) pe_int (nomark _)) (pss_cons (ps_asg (pe_op op_fdivW (pv 2) (pv 1)) (pg_sub (pe_ix ix_seq (pv 0) pe_int (fun _ _ => rfl)) pe_int set_list))
      (pss_one (ps_ret (pe_op op_mod (pv 2) (pv 1))))) pss_nil)
      (pss_one (ps_expr (pe_bm PySem.F.plainAttrs_list PySem.F.slot_list_pop PySem.F.type_list_pop mt_popAt (pe_ix ix_seq (pv 0) pe_int (fun _ _ => rfl)) (pa_cons pe_int pa_nil)))))))
      (pss_cons (ps_asg (pe_op op_addU (pe_ix ix_seq (pv 0) pe_int (fun _ _ => rfl)) pe_int) (pg_sub (pv 0) pe_int set_list))
      (pss_cons (ps_set (i := 3) sc__law_next.nd rfl (.inl rfl) (pe_op op_mod (pe_ix ix_seq (pe_ix ix_seq (pv 0) pe_int (fun _ _ => rfl)) (pe_op op_mod (pe_ix ix_seq (pv 0) pe_int (fun _ _ => rfl)) (pe_callB call_len_seq (by rfl) B.n_len (by decide +kernel) (pa_cons (pe_ix ix_seq (pv 0) pe_int (fun _ _ => rfl)) pa_nil))) (fun _ _ => rfl)) pe_int))
      (pss_cons (ps_set (i := 4) sc__law_next.nd rfl (.inl rfl) (pe_op op_addU (pe_op op_addU (pe_op op_mulV (pv 3) (pe_op op_addU pe_int (pe_op op_mulV pe_int (pe_ix ix_seq (pv 0) pe_int (fun _ _ => rfl))))) (pe_op op_mulV (pe_op op_mulV pe_int (pe_ix ix_seq (pv 0) pe_int (fun _ _ => rfl))) (pe_ix ix_seq (pv 0) pe_int (fun _ _ => rfl)))) pe_int))
      (pss_cons (ps_set (i := 4) sc__law_next.nd rfl (.inl rfl) (pe_op op_mod (pv 4) pe_int))
      (pss_one (ps_ret (pe_op op_mod (pe_op op_fdivW (pe_op op_mod (pe_op op_mulV (pv 4) (pv 4)) pe_int) pe_int) (pv 1))))))))
theorem eq_F__law_odd : F__law_odd = runW 0 1 X__law_odd := by unfold F__law_odd; rfl
theorem c__law_odd (F : Dfn K mg "_law_odd" s__law_odd ["_law_deck_here"]) (B : Bm mg) (c__law_next : CalG P w K mg base 1 "_law_next" (spW F__law_next)) : CalG P w K mg base 2 "_law_odd" (spW F__law_odd) := by
  rw [eq_F__law_odd]
  refine cal_g F sc__law_odd (fun vs H Q E h => len_W h) (fun f cdv A outer s H E hG hr => ⟨T__law_odd, ?_, fun vs Q h => go_W (n := 0) (k := 1) (ss__law_odd) rfl h⟩)
  unfold T__law_odd
  exact pss_cons (ps_set (i := 1) sc__law_odd.nd rfl (.inl rfl) (pe_lst (pa_cons pe_non (pa_cons pe_bl (pa_cons pe_bl (pa_cons pe_int (pa_cons pe_int (pa_cons (pe_un un_neg pe_int) (pa_cons pe_int (pa_cons (pe_op op_addU (pe_op op_pow pe_int pe_int) pe_int) (pa_cons (pe_op op_pow pe_int pe_int) (pa_cons pe_str (pa_cons pe_str (pa_cons (pe_tupF pa_nil) (pa_cons (pe_tupF (pa_cons pe_int pa_nil)) (pa_cons (pe_tupF (pa_cons pe_non pa_nil)) (pa_cons (pe_lst pa_nil) (pa_cons (pe_lst (pa_cons pe_int pa_nil)) (pa_cons pe_dnewK (pa_cons (pe_tupF (pa_cons (pe_tupF pa_nil) pa_nil)) pa_nil))))))))))))))))))))
      (pss_one (ps_ret (pe_ix ix_seq (pv 1) (pe_g c__law_next hr (by decide) hG (by rfl) (pa_cons (pv 0) (pa_cons pe_int pa_nil))) (fun _ _ => rfl))))
theorem eq_F_law_z197 : F_law_z197 = runP 1 8 X_law_z197 := by unfold F_law_z197; rfl
theorem ok_law {f : Addr} {fd : FuncData} (F : Fun K "law" "law" s_law f fd) (B : Bm mg) (Z : HF mg w cA dA) (V : HR P w mg base cA) {t_BATCH : Tok} (m_BATCH : mg "BATCH" = some (.int 20 t_BATCH)) {t_DEEDS : Tok} (m_DEEDS : mg "DEEDS" = some (.int 60 t_DEEDS)) {t_FAR : Tok} (m_FAR : mg "FAR" = some (.int 1000000000000000 t_FAR)) {t_GREAT : Tok} (m_GREAT : mg "GREAT" = some (.int 1000000000000 t_GREAT)) {t_HOUSES : Tok} (m_HOUSES : mg "HOUSES" = some (.int 8 t_HOUSES)) {t_ROADS : Tok} (m_ROADS : mg "ROADS" = some (.int 20 t_ROADS)) {t_SEATS : Tok} (m_SEATS : mg "SEATS" = some (.int 28 t_SEATS)) {t_SMALL : Tok} (m_SMALL : mg "SMALL" = some (.int 4096 t_SMALL)) {t_TIES : Tok} (m_TIES : mg "TIES" = some (.int 36 t_TIES)) (c__law_deck : CalG P w K mg base 1 "_law_deck" (spD F__law_deck_h)) (c__law_kinds : CalG P w K mg base 1 "_law_kinds" (spF F__law_kinds_b)) (c__law_made : CalG P w K mg base 3 "_law_made" (spF F__law_made_b)) (c__law_odd : CalG P w K mg base 2 "_law_odd" (spW F__law_odd)) : FnG P w K mg base 4 f fd ["_law_script"] (spF F_law_z197) := by
  rw [eq_F_law_z197]
  refine fn_g F sc_law (fun vs H Q E h => len_F h) (fun cdv A outer s H E hG hr => ⟨T_law_z197 w cA dA, ?_, fun vs Q h => go_P (n := 1) (k := 8) (ss_law_z197 Z) rfl h⟩)
  unfold T_law_z197
  exact pss_cons (ps_set (i := 1) sc_law.nd rfl (.inl rfl) (pe_g c__law_deck hr (by decide) hG (by rfl) (pa_cons (pv 0) pa_nil)))
      (pss_cons (ps_if (pt_cmpR (op_neD hr.units) (pe_lst (pa_cons (pe_glob (by rfl) m_HOUSES ⟨_, rfl⟩) (pa_cons (pe_glob (by rfl) m_ROADS ⟨_, rfl⟩) (pa_cons (pe_glob (by rfl) m_GREAT ⟨_, rfl⟩) (pa_cons (pe_glob (by rfl) m_SEATS ⟨_, rfl⟩) (pa_cons (pe_glob (by rfl) m_TIES ⟨_, rfl⟩) (pa_cons (pe_glob (by rfl) m_FAR ⟨_, rfl⟩) pa_nil))))))) (pe_lst (pa_cons pe_int (pa_cons pe_int (pa_cons (pe_op op_pow pe_int pe_int) (pa_cons pe_int (pa_cons pe_int (pa_cons (pe_op op_pow pe_int pe_int) pa_nil))))))) (nomark _)) (pss_one (ps_ret pe_bl)) pss_nil)
      (pss_cons (ps_if (pt_cmpR (op_neD hr.units) (pe_lst (pa_cons (pe_glob (by rfl) m_SMALL ⟨_, rfl⟩) (pa_cons (pe_glob (by rfl) m_DEEDS ⟨_, rfl⟩) (pa_cons (pe_glob (by rfl) m_BATCH ⟨_, rfl⟩) pa_nil)))) (pe_lst (pa_cons pe_int (pa_cons pe_int (pa_cons pe_int pa_nil)))) (nomark _)) (pss_one (ps_ret pe_bl)) pss_nil)
      (pss_cons (ps_for PassesOwn.never rfl (pi_range1 (by rfl) B.n_range (pa_cons pe_int pa_nil)) (pg_name (i := 2) sc_law.nd rfl (.inl rfl)) (pss_one (ps_for PassesOwn.never rfl (PI.or (pi_enum (by rfl) B.n_enumerate (pa_cons (pe_g c__law_made hr (by decide) hG (by rfl) (pa_cons (pe_g c__law_odd hr (by decide) hG (by rfl) (pa_cons (pv 1) pa_nil)) (pa_cons (pe_g c__law_odd hr (by decide) hG (by rfl) (pa_cons (pv 1) pa_nil)) pa_nil))) pa_nil)) (Un.pi_enumT (by rfl) B.n_enumerate (pa_cons (pe_g c__law_made hr (by decide) hG (by rfl) (pa_cons (pe_g c__law_odd hr (by decide) hG (by rfl) (pa_cons (pv 1) pa_nil)) (pa_cons (pe_g c__law_odd hr (by decide) hG (by rfl) (pa_cons (pv 1) pa_nil)) pa_nil))) pa_nil))) (PG.or (pg_tup rfl (pgs_cons (pg_name (i := 3) sc_law.nd rfl (.inr rfl)) (pgs_cons (PG.or (pg_tup rfl (pgs_cons (pg_name (i := 4) sc_law.nd rfl (.inl rfl)) (pgs_cons (pg_name (i := 5) sc_law.nd rfl (.inl rfl)) (pgs_cons (pg_name (i := 6) sc_law.nd rfl (.inl rfl)) pgs_nil)))) (pg_unl rfl (pgs_cons (pg_name (i := 4) sc_law.nd rfl (.inl rfl)) (pgs_cons (pg_name (i := 5) sc_law.nd rfl (.inl rfl)) (pgs_cons (pg_name (i := 6) sc_law.nd rfl (.inl rfl)) pgs_nil))))) pgs_nil))) (pg_unl rfl (pgs_cons (pg_name (i := 3) sc_law.nd rfl (.inr rfl)) (pgs_cons (PG.or (pg_tup rfl (pgs_cons (pg_name (i := 4) sc_law.nd rfl (.inl rfl)) (pgs_cons (pg_name (i := 5) sc_law.nd rfl (.inl rfl)) (pgs_cons (pg_name (i := 6) sc_law.nd rfl (.inl rfl)) pgs_nil)))) (pg_unl rfl (pgs_cons (pg_name (i := 4) sc_law.nd rfl (.inl rfl)) (pgs_cons (pg_name (i := 5) sc_law.nd rfl (.inl rfl)) (pgs_cons (pg_name (i := 6) sc_law.nd rfl (.inl rfl)) pgs_nil))))) pgs_nil)))) (pss_cons (ps_if (PW.pt (pw_or (pt_cmpR (op_neD hr.units) (pe_callB (cr_repr hG (u65 hr)) (by rfl) B.n_repr (by decide +kernel) (pa_cons (pv 5) pa_nil)) (pe_callB (cr_repr hG (u65 hr)) (by rfl) B.n_repr (by decide +kernel) (pa_cons (pv 6) pa_nil)) (nomark _)) (pw_or1 (pt_cmpR (op_neD hr.units) (pe_g c__law_kinds hr (by decide) hG (by rfl) (pa_cons (pv 4) pa_nil)) (pe_lc (own := [("_law_k", 8)]) rfl sc_law.nd (pi_range1 (by rfl) B.n_range (pa_cons pe_int pa_nil)) (blkOk_by (N := N_law) (sc := defScope s_law) (by decide +kernel)) (fun _ _ _ _ _ => (pg_name (i := 8) sc_law.nd rfl (.inl rfl))) (fun _ _ _ _ _ => pts_nil) (fun _ _ _ _ _ => pe_cmpR (op_eqX hr.units) (pv 8) (pv 3) (nomark _))) (nomark _))))) (pss_one (ps_ret pe_bl)) pss_nil)
      (pss_cons (ps_set (i := 7) sc_law.nd rfl (.inl rfl) (pe_cmpR (op_gtU hr.units) (pv 3) pe_int (nomark _)))
      (pss_cons (ps_if (PW.pt (pw_or (pt_cmpR (op_eqX hr.units) (pe_callB call_isX (by rfl) B.n_isinstance (by decide +kernel) (pa_cons (pv 4) (pa_cons (pe_glob (v := .ref (cA 0)) (by rfl) Z.g_WebError rfl) pa_nil))) (pv 7) (nomark _)) (pw_or1 (pt_cmpR (op_eqX hr.units) (pe_callB call_isX (by rfl) B.n_isinstance (by decide +kernel) (pa_cons (pv 4) (pa_cons (pe_bltn (v := .ty "ValueError") (by rfl) B.n_ValueError (by decide +kernel) rfl) pa_nil))) (pv 7) (nomark _))))) (pss_one (ps_ret pe_bl)) pss_nil)
      (pss_one (ps_if (pt_cmpR (op_neD hr.units) (pe_callB call_isX (by rfl) B.n_isinstance (by decide +kernel) (pa_cons (pv 4) (pa_cons (pe_bltn (v := .ty "LookupError") (by rfl) B.n_LookupError (by decide +kernel) rfl) pa_nil))) (pv 7) (nomark _)) (pss_one (ps_ret pe_bl)) pss_nil))))))))
      (pss_one (ps_ret pe_bl)))))
end
theorem bi0 (kV doc pm : Value) (an : Option Addr) (cdv ct : Value) (us : List Value) (hl : us.length = 1) : bindArgs (PySem.W.fnOf "_law_deck" "_law_deck" (defArgs s__law_deck) (defBody s__law_deck) (defScope s__law_deck) .none kV doc pm an cdv ct) ⟨us, []⟩ = pure ((["_law_script"] : List Str).zip us) := match us, hl with | [_], _ => rfl
theorem bi1 (kV doc pm : Value) (an : Option Addr) (cdv ct : Value) (us : List Value) (hl : us.length = 1) : bindArgs (PySem.W.fnOf "_law_kinds" "_law_kinds" (defArgs s__law_kinds) (defBody s__law_kinds) (defScope s__law_kinds) .none kV doc pm an cdv ct) ⟨us, []⟩ = pure ((["_law_e"] : List Str).zip us) := match us, hl with | [_], _ => rfl
theorem bi2 (kV doc pm : Value) (an : Option Addr) (cdv ct : Value) (us : List Value) (hl : us.length = 2) : bindArgs (PySem.W.fnOf "_law_made" "_law_made" (defArgs s__law_made) (defBody s__law_made) (defScope s__law_made) .none kV doc pm an cdv ct) ⟨us, []⟩ = pure ((["_law_odd_here", "_law_more"] : List Str).zip us) := match us, hl with | [_, _], _ => rfl
theorem bi3 (kV doc pm : Value) (an : Option Addr) (cdv ct : Value) (us : List Value) (hl : us.length = 2) : bindArgs (PySem.W.fnOf "_law_next" "_law_next" (defArgs s__law_next) (defBody s__law_next) (defScope s__law_next) .none kV doc pm an cdv ct) ⟨us, []⟩ = pure ((["_law_deck_here", "_law_many"] : List Str).zip us) := match us, hl with | [_, _], _ => rfl
theorem bi4 (kV doc pm : Value) (an : Option Addr) (cdv ct : Value) (us : List Value) (hl : us.length = 1) : bindArgs (PySem.W.fnOf "_law_odd" "_law_odd" (defArgs s__law_odd) (defBody s__law_odd) (defScope s__law_odd) .none kV doc pm an cdv ct) ⟨us, []⟩ = pure ((["_law_deck_here"] : List Str).zip us) := match us, hl with | [_], _ => rfl
theorem bi_BadWeb (kV doc pm : Value) (an : Option Addr) (cdv ct : Value) (us : List Value) (hl : us.length = 3) : bindArgs (PySem.W.fnOf "__init__" "BadWeb.__init__" (defArgs s_initBadWeb) (defBody s_initBadWeb) (defScope s_initBadWeb) .none kV doc pm an cdv ct) ⟨us, []⟩ = pure ((["self", "path", "word"] : List Str).zip us) := match us, hl with | [_, _, _], _ => rfl
theorem bi_TooMany (kV doc pm : Value) (an : Option Addr) (cdv ct : Value) (us : List Value) (hl : us.length = 2) : bindArgs (PySem.W.fnOf "__init__" "TooMany.__init__" (defArgs s_initTooMany) (defBody s_initTooMany) (defScope s_initTooMany) .none kV doc pm an cdv ct) ⟨us, []⟩ = pure ((["self", "bound"] : List Str).zip us) := match us, hl with | [_, _], _ => rfl
theorem bi_Broken (kV doc pm : Value) (an : Option Addr) (cdv ct : Value) (us : List Value) (hl : us.length = 2) : bindArgs (PySem.W.fnOf "__init__" "Broken.__init__" (defArgs s_initBroken) (defBody s_initBroken) (defScope s_initBroken) .none kV doc pm an cdv ct) ⟨us, []⟩ = pure ((["self", "number"] : List Str).zip us) := match us, hl with | [_, _], _ => rfl
theorem bi_NoRoom (kV doc pm : Value) (an : Option Addr) (cdv ct : Value) (us : List Value) (hl : us.length = 2) : bindArgs (PySem.W.fnOf "__init__" "NoRoom.__init__" (defArgs s_initNoRoom) (defBody s_initNoRoom) (defScope s_initNoRoom) .none kV doc pm an cdv ct) ⟨us, []⟩ = pure ((["self", "room"] : List Str).zip us) := match us, hl with | [_, _], _ => rfl
theorem bi_NoStream (kV doc pm : Value) (an : Option Addr) (cdv ct : Value) (us : List Value) (hl : us.length = 2) : bindArgs (PySem.W.fnOf "__init__" "NoStream.__init__" (defArgs s_initNoStream) (defBody s_initNoStream) (defScope s_initNoStream) .none kV doc pm an cdv ct) ⟨us, []⟩ = pure ((["self", "fault"] : List Str).zip us) := match us, hl with | [_, _], _ => rfl
theorem bi_NoText (kV doc pm : Value) (an : Option Addr) (cdv ct : Value) (us : List Value) (hl : us.length = 2) : bindArgs (PySem.W.fnOf "__init__" "NoText.__init__" (defArgs s_initNoText) (defBody s_initNoText) (defScope s_initNoText) .none kV doc pm an cdv ct) ⟨us, []⟩ = pure ((["self", "line"] : List Str).zip us) := match us, hl with | [_, _], _ => rfl
theorem bi_NoDoor (kV doc pm : Value) (an : Option Addr) (cdv ct : Value) (us : List Value) (hl : us.length = 2) : bindArgs (PySem.W.fnOf "__init__" "NoDoor.__init__" (defArgs s_initNoDoor) (defBody s_initNoDoor) (defScope s_initNoDoor) .none kV doc pm an cdv ct) ⟨us, []⟩ = pure ((["self", "road"] : List Str).zip us) := match us, hl with | [_, _], _ => rfl
theorem bi_NoRoad (kV doc pm : Value) (an : Option Addr) (cdv ct : Value) (us : List Value) (hl : us.length = 2) : bindArgs (PySem.W.fnOf "__init__" "NoRoad.__init__" (defArgs s_initNoRoad) (defBody s_initNoRoad) (defScope s_initNoRoad) .none kV doc pm an cdv ct) ⟨us, []⟩ = pure ((["self", "road"] : List Str).zip us) := match us, hl with | [_, _], _ => rfl
theorem bi_NoHouse (kV doc pm : Value) (an : Option Addr) (cdv ct : Value) (us : List Value) (hl : us.length = 2) : bindArgs (PySem.W.fnOf "__init__" "NoHouse.__init__" (defArgs s_initNoHouse) (defBody s_initNoHouse) (defScope s_initNoHouse) .none kV doc pm an cdv ct) ⟨us, []⟩ = pure ((["self", "house"] : List Str).zip us) := match us, hl with | [_, _], _ => rfl
theorem bi_NoEnd (kV doc pm : Value) (an : Option Addr) (cdv ct : Value) (us : List Value) (hl : us.length = 2) : bindArgs (PySem.W.fnOf "__init__" "NoEnd.__init__" (defArgs s_initNoEnd) (defBody s_initNoEnd) (defScope s_initNoEnd) .none kV doc pm an cdv ct) ⟨us, []⟩ = pure ((["self", "end"] : List Str).zip us) := match us, hl with | [_, _], _ => rfl
theorem bi_NoMoment (kV doc pm : Value) (an : Option Addr) (cdv ct : Value) (us : List Value) (hl : us.length = 2) : bindArgs (PySem.W.fnOf "__init__" "NoMoment.__init__" (defArgs s_initNoMoment) (defBody s_initNoMoment) (defScope s_initNoMoment) .none kV doc pm an cdv ct) ⟨us, []⟩ = pure ((["self", "number"] : List Str).zip us) := match us, hl with | [_, _], _ => rfl
theorem all_mk {l : PySem.W.OpenLaw} {w : World} {K : PySem.W.Frag} {h : Heap} {mg : Str → Option Value} {fa : Addr} (X : K.In h) (G : h.Ns mainGlobals mg) (hfa : mg "law" = some (.ref fa))
    {f0 : Addr} {od0 an0 : Option Addr} {sl0 : Array (Option Value)} {oc0 kV0 dc0 pm0 cd0 ct0 : Value}
    {f1 : Addr} {od1 an1 : Option Addr} {sl1 : Array (Option Value)} {oc1 kV1 dc1 pm1 cd1 ct1 : Value}
    {f2 : Addr} {od2 an2 : Option Addr} {sl2 : Array (Option Value)} {oc2 kV2 dc2 pm2 cd2 ct2 : Value}
    {f3 : Addr} {od3 an3 : Option Addr} {sl3 : Array (Option Value)} {oc3 kV3 dc3 pm3 cd3 ct3 : Value}
    {f4 : Addr} {od4 an4 : Option Addr} {sl4 : Array (Option Value)} {oc4 kV4 dc4 pm4 cd4 ct4 : Value}
    {f5 : Addr} {od5 an5 : Option Addr} {sl5 : Array (Option Value)} {oc5 kV5 dc5 pm5 cd5 ct5 : Value}
    {t_BATCH : Tok}
    {t_DEEDS : Tok}
    {t_FAR : Tok}
    {t_GREAT : Tok}
    {t_HOUSES : Tok}
    {t_ROADS : Tok}
    {t_SEATS : Tok}
    {t_SMALL : Tok}
    {t_TIES : Tok}
    {C_WebError : Addr}
    {C_BadWeb : Addr}
    {C_TooGreat : Addr}
    {C_Full : Addr}
    {C_NoRoads : Addr}
    {C_BadOrder : Addr}
    {C_TooMany : Addr}
    {C_Long : Addr}
    {C_Busy : Addr}
    {C_NothingBack : Addr}
    {C_NoDeeds : Addr}
    {C_Broken : Addr}
    {C_Last : Addr}
    {C_Held : Addr}
    {C_NoRoom : Addr}
    {C_NoStream : Addr}
    {C_NoText : Addr}
    {C_NoDoor : Addr}
    {C_NoRoad : Addr}
    {C_NoHouse : Addr}
    {C_NoEnd : Addr}
    {C_NoMoment : Addr}
    {o_BadWeb : Obj} {I_BadWeb : Addr} {odI_BadWeb anI_BadWeb : Option Addr} {slI_BadWeb : Array (Option Value)} {ocI_BadWeb kVI_BadWeb dcI_BadWeb pmI_BadWeb cdI_BadWeb ctI_BadWeb : Value}
    {o_TooMany : Obj} {I_TooMany : Addr} {odI_TooMany anI_TooMany : Option Addr} {slI_TooMany : Array (Option Value)} {ocI_TooMany kVI_TooMany dcI_TooMany pmI_TooMany cdI_TooMany ctI_TooMany : Value}
    {o_Broken : Obj} {I_Broken : Addr} {odI_Broken anI_Broken : Option Addr} {slI_Broken : Array (Option Value)} {ocI_Broken kVI_Broken dcI_Broken pmI_Broken cdI_Broken ctI_Broken : Value}
    {o_NoRoom : Obj} {I_NoRoom : Addr} {odI_NoRoom anI_NoRoom : Option Addr} {slI_NoRoom : Array (Option Value)} {ocI_NoRoom kVI_NoRoom dcI_NoRoom pmI_NoRoom cdI_NoRoom ctI_NoRoom : Value}
    {o_NoStream : Obj} {I_NoStream : Addr} {odI_NoStream anI_NoStream : Option Addr} {slI_NoStream : Array (Option Value)} {ocI_NoStream kVI_NoStream dcI_NoStream pmI_NoStream cdI_NoStream ctI_NoStream : Value}
    {o_NoText : Obj} {I_NoText : Addr} {odI_NoText anI_NoText : Option Addr} {slI_NoText : Array (Option Value)} {ocI_NoText kVI_NoText dcI_NoText pmI_NoText cdI_NoText ctI_NoText : Value}
    {o_NoDoor : Obj} {I_NoDoor : Addr} {odI_NoDoor anI_NoDoor : Option Addr} {slI_NoDoor : Array (Option Value)} {ocI_NoDoor kVI_NoDoor dcI_NoDoor pmI_NoDoor cdI_NoDoor ctI_NoDoor : Value}
    {o_NoRoad : Obj} {I_NoRoad : Addr} {odI_NoRoad anI_NoRoad : Option Addr} {slI_NoRoad : Array (Option Value)} {ocI_NoRoad kVI_NoRoad dcI_NoRoad pmI_NoRoad cdI_NoRoad ctI_NoRoad : Value}
    {o_NoHouse : Obj} {I_NoHouse : Addr} {odI_NoHouse anI_NoHouse : Option Addr} {slI_NoHouse : Array (Option Value)} {ocI_NoHouse kVI_NoHouse dcI_NoHouse pmI_NoHouse cdI_NoHouse ctI_NoHouse : Value}
    {o_NoEnd : Obj} {I_NoEnd : Addr} {odI_NoEnd anI_NoEnd : Option Addr} {slI_NoEnd : Array (Option Value)} {ocI_NoEnd kVI_NoEnd dcI_NoEnd pmI_NoEnd cdI_NoEnd ctI_NoEnd : Value}
    {o_NoMoment : Obj} {I_NoMoment : Addr} {odI_NoMoment anI_NoMoment : Option Addr} {slI_NoMoment : Array (Option Value)} {ocI_NoMoment kVI_NoMoment dcI_NoMoment pmI_NoMoment cdI_NoMoment ctI_NoMoment : Value}
    (a0 : PySem.W.nsIn K mainGlobals "_law_deck" = some (some (.ref f0)))
    (l0 : K.lookup f0 = some ⟨oc0, od0, .func (PySem.W.fnOf "_law_deck" "_law_deck" (defArgs s__law_deck) (defBody s__law_deck) (defScope s__law_deck) .none kV0 dc0 pm0 an0 cd0 ct0), sl0⟩)
    (c0 : PySem.W.codeIn K cd0 "_law_deck" = true)
    (k0 : PySem.W.keepIn K (.ref f0) = true)
    (a1 : PySem.W.nsIn K mainGlobals "_law_kinds" = some (some (.ref f1)))
    (l1 : K.lookup f1 = some ⟨oc1, od1, .func (PySem.W.fnOf "_law_kinds" "_law_kinds" (defArgs s__law_kinds) (defBody s__law_kinds) (defScope s__law_kinds) .none kV1 dc1 pm1 an1 cd1 ct1), sl1⟩)
    (c1 : PySem.W.codeIn K cd1 "_law_kinds" = true)
    (k1 : PySem.W.keepIn K (.ref f1) = true)
    (a2 : PySem.W.nsIn K mainGlobals "_law_made" = some (some (.ref f2)))
    (l2 : K.lookup f2 = some ⟨oc2, od2, .func (PySem.W.fnOf "_law_made" "_law_made" (defArgs s__law_made) (defBody s__law_made) (defScope s__law_made) .none kV2 dc2 pm2 an2 cd2 ct2), sl2⟩)
    (c2 : PySem.W.codeIn K cd2 "_law_made" = true)
    (k2 : PySem.W.keepIn K (.ref f2) = true)
    (a3 : PySem.W.nsIn K mainGlobals "_law_next" = some (some (.ref f3)))
    (l3 : K.lookup f3 = some ⟨oc3, od3, .func (PySem.W.fnOf "_law_next" "_law_next" (defArgs s__law_next) (defBody s__law_next) (defScope s__law_next) .none kV3 dc3 pm3 an3 cd3 ct3), sl3⟩)
    (c3 : PySem.W.codeIn K cd3 "_law_next" = true)
    (k3 : PySem.W.keepIn K (.ref f3) = true)
    (a4 : PySem.W.nsIn K mainGlobals "_law_odd" = some (some (.ref f4)))
    (l4 : K.lookup f4 = some ⟨oc4, od4, .func (PySem.W.fnOf "_law_odd" "_law_odd" (defArgs s__law_odd) (defBody s__law_odd) (defScope s__law_odd) .none kV4 dc4 pm4 an4 cd4 ct4), sl4⟩)
    (c4 : PySem.W.codeIn K cd4 "_law_odd" = true)
    (k4 : PySem.W.keepIn K (.ref f4) = true)
    (a5 : PySem.W.nsIn K mainGlobals "law" = some (some (.ref f5)))
    (l5 : K.lookup f5 = some ⟨oc5, od5, .func (PySem.W.fnOf "law" "law" (defArgs s_law) (defBody s_law) (defScope s_law) .none kV5 dc5 pm5 an5 cd5 ct5), sl5⟩)
    (c5 : PySem.W.codeIn K cd5 "law" = true)
    (k5 : PySem.W.keepIn K (.ref f5) = true)
    (v_BATCH : PySem.W.nsIn K mainGlobals "BATCH" = some (some (.int 20 t_BATCH)))
    (v_DEEDS : PySem.W.nsIn K mainGlobals "DEEDS" = some (some (.int 60 t_DEEDS)))
    (v_FAR : PySem.W.nsIn K mainGlobals "FAR" = some (some (.int 1000000000000000 t_FAR)))
    (v_GREAT : PySem.W.nsIn K mainGlobals "GREAT" = some (some (.int 1000000000000 t_GREAT)))
    (v_HOUSES : PySem.W.nsIn K mainGlobals "HOUSES" = some (some (.int 8 t_HOUSES)))
    (v_ROADS : PySem.W.nsIn K mainGlobals "ROADS" = some (some (.int 20 t_ROADS)))
    (v_SEATS : PySem.W.nsIn K mainGlobals "SEATS" = some (some (.int 28 t_SEATS)))
    (v_SMALL : PySem.W.nsIn K mainGlobals "SMALL" = some (some (.int 4096 t_SMALL)))
    (v_TIES : PySem.W.nsIn K mainGlobals "TIES" = some (some (.int 36 t_TIES)))
    (z_LookupError : PySem.W.nsIn K mainGlobals "LookupError" = some none)
    (z_ValueError : PySem.W.nsIn K mainGlobals "ValueError" = some none)
    (z_abs : PySem.W.nsIn K mainGlobals "abs" = some none)
    (z_enumerate : PySem.W.nsIn K mainGlobals "enumerate" = some none)
    (z_isinstance : PySem.W.nsIn K mainGlobals "isinstance" = some none)
    (z_len : PySem.W.nsIn K mainGlobals "len" = some none)
    (z_range : PySem.W.nsIn K mainGlobals "range" = some none)
    (z_repr : PySem.W.nsIn K mainGlobals "repr" = some none)
    (y_WebError : PySem.W.nsIn K mainGlobals "WebError" = some (some (.ref C_WebError)))
    (y_BadWeb : PySem.W.nsIn K mainGlobals "BadWeb" = some (some (.ref C_BadWeb)))
    (y_TooGreat : PySem.W.nsIn K mainGlobals "TooGreat" = some (some (.ref C_TooGreat)))
    (y_Full : PySem.W.nsIn K mainGlobals "Full" = some (some (.ref C_Full)))
    (y_NoRoads : PySem.W.nsIn K mainGlobals "NoRoads" = some (some (.ref C_NoRoads)))
    (y_BadOrder : PySem.W.nsIn K mainGlobals "BadOrder" = some (some (.ref C_BadOrder)))
    (y_TooMany : PySem.W.nsIn K mainGlobals "TooMany" = some (some (.ref C_TooMany)))
    (y_Long : PySem.W.nsIn K mainGlobals "Long" = some (some (.ref C_Long)))
    (y_Busy : PySem.W.nsIn K mainGlobals "Busy" = some (some (.ref C_Busy)))
    (y_NothingBack : PySem.W.nsIn K mainGlobals "NothingBack" = some (some (.ref C_NothingBack)))
    (y_NoDeeds : PySem.W.nsIn K mainGlobals "NoDeeds" = some (some (.ref C_NoDeeds)))
    (y_Broken : PySem.W.nsIn K mainGlobals "Broken" = some (some (.ref C_Broken)))
    (y_Last : PySem.W.nsIn K mainGlobals "Last" = some (some (.ref C_Last)))
    (y_Held : PySem.W.nsIn K mainGlobals "Held" = some (some (.ref C_Held)))
    (y_NoRoom : PySem.W.nsIn K mainGlobals "NoRoom" = some (some (.ref C_NoRoom)))
    (y_NoStream : PySem.W.nsIn K mainGlobals "NoStream" = some (some (.ref C_NoStream)))
    (y_NoText : PySem.W.nsIn K mainGlobals "NoText" = some (some (.ref C_NoText)))
    (y_NoDoor : PySem.W.nsIn K mainGlobals "NoDoor" = some (some (.ref C_NoDoor)))
    (y_NoRoad : PySem.W.nsIn K mainGlobals "NoRoad" = some (some (.ref C_NoRoad)))
    (y_NoHouse : PySem.W.nsIn K mainGlobals "NoHouse" = some (some (.ref C_NoHouse)))
    (y_NoEnd : PySem.W.nsIn K mainGlobals "NoEnd" = some (some (.ref C_NoEnd)))
    (y_NoMoment : PySem.W.nsIn K mainGlobals "NoMoment" = some (some (.ref C_NoMoment)))
    (yt_BadOrder : PySem.W.typeIn K (.ref C_BadOrder) = some (.type "type"))
    (yh_BadOrder : PySem.W.hasDictIn K C_BadOrder = true)
    (yt_BadWeb : PySem.W.typeIn K (.ref C_BadWeb) = some (.type "type"))
    (yh_BadWeb : PySem.W.hasDictIn K C_BadWeb = true)
    (yt_Broken : PySem.W.typeIn K (.ref C_Broken) = some (.type "type"))
    (yh_Broken : PySem.W.hasDictIn K C_Broken = true)
    (yt_Busy : PySem.W.typeIn K (.ref C_Busy) = some (.type "type"))
    (yh_Busy : PySem.W.hasDictIn K C_Busy = true)
    (yt_Full : PySem.W.typeIn K (.ref C_Full) = some (.type "type"))
    (yh_Full : PySem.W.hasDictIn K C_Full = true)
    (yt_Held : PySem.W.typeIn K (.ref C_Held) = some (.type "type"))
    (yh_Held : PySem.W.hasDictIn K C_Held = true)
    (yt_Last : PySem.W.typeIn K (.ref C_Last) = some (.type "type"))
    (yh_Last : PySem.W.hasDictIn K C_Last = true)
    (yt_Long : PySem.W.typeIn K (.ref C_Long) = some (.type "type"))
    (yh_Long : PySem.W.hasDictIn K C_Long = true)
    (yt_NoDeeds : PySem.W.typeIn K (.ref C_NoDeeds) = some (.type "type"))
    (yh_NoDeeds : PySem.W.hasDictIn K C_NoDeeds = true)
    (yt_NoDoor : PySem.W.typeIn K (.ref C_NoDoor) = some (.type "type"))
    (yh_NoDoor : PySem.W.hasDictIn K C_NoDoor = true)
    (yt_NoEnd : PySem.W.typeIn K (.ref C_NoEnd) = some (.type "type"))
    (yh_NoEnd : PySem.W.hasDictIn K C_NoEnd = true)
    (yt_NoHouse : PySem.W.typeIn K (.ref C_NoHouse) = some (.type "type"))
    (yh_NoHouse : PySem.W.hasDictIn K C_NoHouse = true)
    (yt_NoMoment : PySem.W.typeIn K (.ref C_NoMoment) = some (.type "type"))
    (yh_NoMoment : PySem.W.hasDictIn K C_NoMoment = true)
    (yt_NoRoad : PySem.W.typeIn K (.ref C_NoRoad) = some (.type "type"))
    (yh_NoRoad : PySem.W.hasDictIn K C_NoRoad = true)
    (yt_NoRoads : PySem.W.typeIn K (.ref C_NoRoads) = some (.type "type"))
    (yh_NoRoads : PySem.W.hasDictIn K C_NoRoads = true)
    (yt_NoRoom : PySem.W.typeIn K (.ref C_NoRoom) = some (.type "type"))
    (yh_NoRoom : PySem.W.hasDictIn K C_NoRoom = true)
    (yt_NoStream : PySem.W.typeIn K (.ref C_NoStream) = some (.type "type"))
    (yh_NoStream : PySem.W.hasDictIn K C_NoStream = true)
    (yt_NoText : PySem.W.typeIn K (.ref C_NoText) = some (.type "type"))
    (yh_NoText : PySem.W.hasDictIn K C_NoText = true)
    (yt_NothingBack : PySem.W.typeIn K (.ref C_NothingBack) = some (.type "type"))
    (yh_NothingBack : PySem.W.hasDictIn K C_NothingBack = true)
    (yt_TooGreat : PySem.W.typeIn K (.ref C_TooGreat) = some (.type "type"))
    (yh_TooGreat : PySem.W.hasDictIn K C_TooGreat = true)
    (yt_TooMany : PySem.W.typeIn K (.ref C_TooMany) = some (.type "type"))
    (yh_TooMany : PySem.W.hasDictIn K C_TooMany = true)
    (yt_WebError : PySem.W.typeIn K (.ref C_WebError) = some (.type "type"))
    (yh_WebError : PySem.W.hasDictIn K C_WebError = true)
    (ye3 : PySem.W.specialIn K (.builtin "object.__class__") "__get__" = some (some (.builtin "getset_descriptor.__get__")))
    (ye4 : PySem.W.takesIn K (.builtin "object.__class__") = some true)
    (yb_BadWeb : PySem.W.subIn K (.ref C_BadWeb) (.type "BaseException") = some true)
    (ye0_BadWeb : PySem.W.findIn K (.ref C_BadWeb) "__getattribute__" = some (some (.builtin "BaseException.__getattribute__")))
    (ye1_BadWeb : PySem.W.findIn K (.ref C_BadWeb) "__getattr__" = some none)
    (ye2_BadWeb : PySem.W.findIn K (.ref C_BadWeb) "__class__" = some (some (.builtin "object.__class__")))
    (ye5_BadWeb : PySem.W.mroIn K C_BadWeb (.type "object") = some true)
    (s_BadWeb_BadOrder : PySem.W.subIn K (.ref C_BadWeb) (.ref C_BadOrder) = some false)
    (s_BadWeb_BadWeb : PySem.W.subIn K (.ref C_BadWeb) (.ref C_BadWeb) = some true)
    (s_BadWeb_Broken : PySem.W.subIn K (.ref C_BadWeb) (.ref C_Broken) = some false)
    (s_BadWeb_Busy : PySem.W.subIn K (.ref C_BadWeb) (.ref C_Busy) = some false)
    (s_BadWeb_Full : PySem.W.subIn K (.ref C_BadWeb) (.ref C_Full) = some false)
    (s_BadWeb_Held : PySem.W.subIn K (.ref C_BadWeb) (.ref C_Held) = some false)
    (s_BadWeb_Last : PySem.W.subIn K (.ref C_BadWeb) (.ref C_Last) = some false)
    (s_BadWeb_Long : PySem.W.subIn K (.ref C_BadWeb) (.ref C_Long) = some false)
    (s_BadWeb_LookupError : PySem.W.subIn K (.ref C_BadWeb) (.type "LookupError") = some false)
    (s_BadWeb_NoDeeds : PySem.W.subIn K (.ref C_BadWeb) (.ref C_NoDeeds) = some false)
    (s_BadWeb_NoDoor : PySem.W.subIn K (.ref C_BadWeb) (.ref C_NoDoor) = some false)
    (s_BadWeb_NoEnd : PySem.W.subIn K (.ref C_BadWeb) (.ref C_NoEnd) = some false)
    (s_BadWeb_NoHouse : PySem.W.subIn K (.ref C_BadWeb) (.ref C_NoHouse) = some false)
    (s_BadWeb_NoMoment : PySem.W.subIn K (.ref C_BadWeb) (.ref C_NoMoment) = some false)
    (s_BadWeb_NoRoad : PySem.W.subIn K (.ref C_BadWeb) (.ref C_NoRoad) = some false)
    (s_BadWeb_NoRoads : PySem.W.subIn K (.ref C_BadWeb) (.ref C_NoRoads) = some false)
    (s_BadWeb_NoRoom : PySem.W.subIn K (.ref C_BadWeb) (.ref C_NoRoom) = some false)
    (s_BadWeb_NoStream : PySem.W.subIn K (.ref C_BadWeb) (.ref C_NoStream) = some false)
    (s_BadWeb_NoText : PySem.W.subIn K (.ref C_BadWeb) (.ref C_NoText) = some false)
    (s_BadWeb_NothingBack : PySem.W.subIn K (.ref C_BadWeb) (.ref C_NothingBack) = some false)
    (s_BadWeb_TooGreat : PySem.W.subIn K (.ref C_BadWeb) (.ref C_TooGreat) = some false)
    (s_BadWeb_TooMany : PySem.W.subIn K (.ref C_BadWeb) (.ref C_TooMany) = some false)
    (s_BadWeb_ValueError : PySem.W.subIn K (.ref C_BadWeb) (.type "ValueError") = some true)
    (s_BadWeb_WebError : PySem.W.subIn K (.ref C_BadWeb) (.ref C_WebError) = some true)
    (no_BadWeb_path : PySem.W.findIn K (.ref C_BadWeb) "path" = some none)
    (no_BadWeb_word : PySem.W.findIn K (.ref C_BadWeb) "word" = some none)
    (yk_BadWeb : PySem.W.keepIn K (.ref C_BadWeb) = true)
    (vl_BadWeb : K.lookup C_BadWeb = some o_BadWeb)
    (vo_BadWeb : oexO C_BadWeb o_BadWeb = true)
    (vs_BadWeb : PySem.W.findIn K (.ref C_BadWeb) "__setattr__" = some (some (.builtin "object.__setattr__")))
    (vi_BadWeb : PySem.W.findIn K (.ref C_BadWeb) "__init__" = some (some (.ref I_BadWeb)))
    (vt_BadWeb : PySem.W.typeIn K (.ref I_BadWeb) = some (.type "function"))
    (vf_BadWeb : K.lookup I_BadWeb = some ⟨ocI_BadWeb, odI_BadWeb, .func (PySem.W.fnOf "__init__" "BadWeb.__init__" (defArgs s_initBadWeb) (defBody s_initBadWeb) (defScope s_initBadWeb) .none kVI_BadWeb dcI_BadWeb pmI_BadWeb anI_BadWeb cdI_BadWeb ctI_BadWeb), slI_BadWeb⟩)
    (vc_BadWeb : PySem.W.codeIn K cdI_BadWeb "BadWeb.__init__" = true)
    (yb_TooGreat : PySem.W.subIn K (.ref C_TooGreat) (.type "BaseException") = some true)
    (ye0_TooGreat : PySem.W.findIn K (.ref C_TooGreat) "__getattribute__" = some (some (.builtin "BaseException.__getattribute__")))
    (ye1_TooGreat : PySem.W.findIn K (.ref C_TooGreat) "__getattr__" = some none)
    (ye2_TooGreat : PySem.W.findIn K (.ref C_TooGreat) "__class__" = some (some (.builtin "object.__class__")))
    (ye5_TooGreat : PySem.W.mroIn K C_TooGreat (.type "object") = some true)
    (s_TooGreat_BadOrder : PySem.W.subIn K (.ref C_TooGreat) (.ref C_BadOrder) = some false)
    (s_TooGreat_BadWeb : PySem.W.subIn K (.ref C_TooGreat) (.ref C_BadWeb) = some false)
    (s_TooGreat_Broken : PySem.W.subIn K (.ref C_TooGreat) (.ref C_Broken) = some false)
    (s_TooGreat_Busy : PySem.W.subIn K (.ref C_TooGreat) (.ref C_Busy) = some false)
    (s_TooGreat_Full : PySem.W.subIn K (.ref C_TooGreat) (.ref C_Full) = some false)
    (s_TooGreat_Held : PySem.W.subIn K (.ref C_TooGreat) (.ref C_Held) = some false)
    (s_TooGreat_Last : PySem.W.subIn K (.ref C_TooGreat) (.ref C_Last) = some false)
    (s_TooGreat_Long : PySem.W.subIn K (.ref C_TooGreat) (.ref C_Long) = some false)
    (s_TooGreat_LookupError : PySem.W.subIn K (.ref C_TooGreat) (.type "LookupError") = some false)
    (s_TooGreat_NoDeeds : PySem.W.subIn K (.ref C_TooGreat) (.ref C_NoDeeds) = some false)
    (s_TooGreat_NoDoor : PySem.W.subIn K (.ref C_TooGreat) (.ref C_NoDoor) = some false)
    (s_TooGreat_NoEnd : PySem.W.subIn K (.ref C_TooGreat) (.ref C_NoEnd) = some false)
    (s_TooGreat_NoHouse : PySem.W.subIn K (.ref C_TooGreat) (.ref C_NoHouse) = some false)
    (s_TooGreat_NoMoment : PySem.W.subIn K (.ref C_TooGreat) (.ref C_NoMoment) = some false)
    (s_TooGreat_NoRoad : PySem.W.subIn K (.ref C_TooGreat) (.ref C_NoRoad) = some false)
    (s_TooGreat_NoRoads : PySem.W.subIn K (.ref C_TooGreat) (.ref C_NoRoads) = some false)
    (s_TooGreat_NoRoom : PySem.W.subIn K (.ref C_TooGreat) (.ref C_NoRoom) = some false)
    (s_TooGreat_NoStream : PySem.W.subIn K (.ref C_TooGreat) (.ref C_NoStream) = some false)
    (s_TooGreat_NoText : PySem.W.subIn K (.ref C_TooGreat) (.ref C_NoText) = some false)
    (s_TooGreat_NothingBack : PySem.W.subIn K (.ref C_TooGreat) (.ref C_NothingBack) = some false)
    (s_TooGreat_TooGreat : PySem.W.subIn K (.ref C_TooGreat) (.ref C_TooGreat) = some true)
    (s_TooGreat_TooMany : PySem.W.subIn K (.ref C_TooGreat) (.ref C_TooMany) = some false)
    (s_TooGreat_ValueError : PySem.W.subIn K (.ref C_TooGreat) (.type "ValueError") = some true)
    (s_TooGreat_WebError : PySem.W.subIn K (.ref C_TooGreat) (.ref C_WebError) = some true)
    (yk_TooGreat : PySem.W.keepIn K (.ref C_TooGreat) = true)
    (yx_TooGreat : PySem.W.excIn K C_TooGreat [.type "ValueError", .type "Exception", .type "BaseException", .type "object"] "ValueError.__new__" = true)
    (yb_Full : PySem.W.subIn K (.ref C_Full) (.type "BaseException") = some true)
    (ye0_Full : PySem.W.findIn K (.ref C_Full) "__getattribute__" = some (some (.builtin "BaseException.__getattribute__")))
    (ye1_Full : PySem.W.findIn K (.ref C_Full) "__getattr__" = some none)
    (ye2_Full : PySem.W.findIn K (.ref C_Full) "__class__" = some (some (.builtin "object.__class__")))
    (ye5_Full : PySem.W.mroIn K C_Full (.type "object") = some true)
    (s_Full_BadOrder : PySem.W.subIn K (.ref C_Full) (.ref C_BadOrder) = some false)
    (s_Full_BadWeb : PySem.W.subIn K (.ref C_Full) (.ref C_BadWeb) = some false)
    (s_Full_Broken : PySem.W.subIn K (.ref C_Full) (.ref C_Broken) = some false)
    (s_Full_Busy : PySem.W.subIn K (.ref C_Full) (.ref C_Busy) = some false)
    (s_Full_Full : PySem.W.subIn K (.ref C_Full) (.ref C_Full) = some true)
    (s_Full_Held : PySem.W.subIn K (.ref C_Full) (.ref C_Held) = some false)
    (s_Full_Last : PySem.W.subIn K (.ref C_Full) (.ref C_Last) = some false)
    (s_Full_Long : PySem.W.subIn K (.ref C_Full) (.ref C_Long) = some false)
    (s_Full_LookupError : PySem.W.subIn K (.ref C_Full) (.type "LookupError") = some false)
    (s_Full_NoDeeds : PySem.W.subIn K (.ref C_Full) (.ref C_NoDeeds) = some false)
    (s_Full_NoDoor : PySem.W.subIn K (.ref C_Full) (.ref C_NoDoor) = some false)
    (s_Full_NoEnd : PySem.W.subIn K (.ref C_Full) (.ref C_NoEnd) = some false)
    (s_Full_NoHouse : PySem.W.subIn K (.ref C_Full) (.ref C_NoHouse) = some false)
    (s_Full_NoMoment : PySem.W.subIn K (.ref C_Full) (.ref C_NoMoment) = some false)
    (s_Full_NoRoad : PySem.W.subIn K (.ref C_Full) (.ref C_NoRoad) = some false)
    (s_Full_NoRoads : PySem.W.subIn K (.ref C_Full) (.ref C_NoRoads) = some false)
    (s_Full_NoRoom : PySem.W.subIn K (.ref C_Full) (.ref C_NoRoom) = some false)
    (s_Full_NoStream : PySem.W.subIn K (.ref C_Full) (.ref C_NoStream) = some false)
    (s_Full_NoText : PySem.W.subIn K (.ref C_Full) (.ref C_NoText) = some false)
    (s_Full_NothingBack : PySem.W.subIn K (.ref C_Full) (.ref C_NothingBack) = some false)
    (s_Full_TooGreat : PySem.W.subIn K (.ref C_Full) (.ref C_TooGreat) = some false)
    (s_Full_TooMany : PySem.W.subIn K (.ref C_Full) (.ref C_TooMany) = some false)
    (s_Full_ValueError : PySem.W.subIn K (.ref C_Full) (.type "ValueError") = some true)
    (s_Full_WebError : PySem.W.subIn K (.ref C_Full) (.ref C_WebError) = some true)
    (yk_Full : PySem.W.keepIn K (.ref C_Full) = true)
    (yx_Full : PySem.W.excIn K C_Full [.type "ValueError", .type "Exception", .type "BaseException", .type "object"] "ValueError.__new__" = true)
    (yb_NoRoads : PySem.W.subIn K (.ref C_NoRoads) (.type "BaseException") = some true)
    (ye0_NoRoads : PySem.W.findIn K (.ref C_NoRoads) "__getattribute__" = some (some (.builtin "BaseException.__getattribute__")))
    (ye1_NoRoads : PySem.W.findIn K (.ref C_NoRoads) "__getattr__" = some none)
    (ye2_NoRoads : PySem.W.findIn K (.ref C_NoRoads) "__class__" = some (some (.builtin "object.__class__")))
    (ye5_NoRoads : PySem.W.mroIn K C_NoRoads (.type "object") = some true)
    (s_NoRoads_BadOrder : PySem.W.subIn K (.ref C_NoRoads) (.ref C_BadOrder) = some false)
    (s_NoRoads_BadWeb : PySem.W.subIn K (.ref C_NoRoads) (.ref C_BadWeb) = some false)
    (s_NoRoads_Broken : PySem.W.subIn K (.ref C_NoRoads) (.ref C_Broken) = some false)
    (s_NoRoads_Busy : PySem.W.subIn K (.ref C_NoRoads) (.ref C_Busy) = some false)
    (s_NoRoads_Full : PySem.W.subIn K (.ref C_NoRoads) (.ref C_Full) = some false)
    (s_NoRoads_Held : PySem.W.subIn K (.ref C_NoRoads) (.ref C_Held) = some false)
    (s_NoRoads_Last : PySem.W.subIn K (.ref C_NoRoads) (.ref C_Last) = some false)
    (s_NoRoads_Long : PySem.W.subIn K (.ref C_NoRoads) (.ref C_Long) = some false)
    (s_NoRoads_LookupError : PySem.W.subIn K (.ref C_NoRoads) (.type "LookupError") = some false)
    (s_NoRoads_NoDeeds : PySem.W.subIn K (.ref C_NoRoads) (.ref C_NoDeeds) = some false)
    (s_NoRoads_NoDoor : PySem.W.subIn K (.ref C_NoRoads) (.ref C_NoDoor) = some false)
    (s_NoRoads_NoEnd : PySem.W.subIn K (.ref C_NoRoads) (.ref C_NoEnd) = some false)
    (s_NoRoads_NoHouse : PySem.W.subIn K (.ref C_NoRoads) (.ref C_NoHouse) = some false)
    (s_NoRoads_NoMoment : PySem.W.subIn K (.ref C_NoRoads) (.ref C_NoMoment) = some false)
    (s_NoRoads_NoRoad : PySem.W.subIn K (.ref C_NoRoads) (.ref C_NoRoad) = some false)
    (s_NoRoads_NoRoads : PySem.W.subIn K (.ref C_NoRoads) (.ref C_NoRoads) = some true)
    (s_NoRoads_NoRoom : PySem.W.subIn K (.ref C_NoRoads) (.ref C_NoRoom) = some false)
    (s_NoRoads_NoStream : PySem.W.subIn K (.ref C_NoRoads) (.ref C_NoStream) = some false)
    (s_NoRoads_NoText : PySem.W.subIn K (.ref C_NoRoads) (.ref C_NoText) = some false)
    (s_NoRoads_NothingBack : PySem.W.subIn K (.ref C_NoRoads) (.ref C_NothingBack) = some false)
    (s_NoRoads_TooGreat : PySem.W.subIn K (.ref C_NoRoads) (.ref C_TooGreat) = some false)
    (s_NoRoads_TooMany : PySem.W.subIn K (.ref C_NoRoads) (.ref C_TooMany) = some false)
    (s_NoRoads_ValueError : PySem.W.subIn K (.ref C_NoRoads) (.type "ValueError") = some true)
    (s_NoRoads_WebError : PySem.W.subIn K (.ref C_NoRoads) (.ref C_WebError) = some true)
    (yk_NoRoads : PySem.W.keepIn K (.ref C_NoRoads) = true)
    (yx_NoRoads : PySem.W.excIn K C_NoRoads [.type "ValueError", .type "Exception", .type "BaseException", .type "object"] "ValueError.__new__" = true)
    (yb_BadOrder : PySem.W.subIn K (.ref C_BadOrder) (.type "BaseException") = some true)
    (ye0_BadOrder : PySem.W.findIn K (.ref C_BadOrder) "__getattribute__" = some (some (.builtin "BaseException.__getattribute__")))
    (ye1_BadOrder : PySem.W.findIn K (.ref C_BadOrder) "__getattr__" = some none)
    (ye2_BadOrder : PySem.W.findIn K (.ref C_BadOrder) "__class__" = some (some (.builtin "object.__class__")))
    (ye5_BadOrder : PySem.W.mroIn K C_BadOrder (.type "object") = some true)
    (s_BadOrder_BadOrder : PySem.W.subIn K (.ref C_BadOrder) (.ref C_BadOrder) = some true)
    (s_BadOrder_BadWeb : PySem.W.subIn K (.ref C_BadOrder) (.ref C_BadWeb) = some false)
    (s_BadOrder_Broken : PySem.W.subIn K (.ref C_BadOrder) (.ref C_Broken) = some false)
    (s_BadOrder_Busy : PySem.W.subIn K (.ref C_BadOrder) (.ref C_Busy) = some false)
    (s_BadOrder_Full : PySem.W.subIn K (.ref C_BadOrder) (.ref C_Full) = some false)
    (s_BadOrder_Held : PySem.W.subIn K (.ref C_BadOrder) (.ref C_Held) = some false)
    (s_BadOrder_Last : PySem.W.subIn K (.ref C_BadOrder) (.ref C_Last) = some false)
    (s_BadOrder_Long : PySem.W.subIn K (.ref C_BadOrder) (.ref C_Long) = some false)
    (s_BadOrder_LookupError : PySem.W.subIn K (.ref C_BadOrder) (.type "LookupError") = some false)
    (s_BadOrder_NoDeeds : PySem.W.subIn K (.ref C_BadOrder) (.ref C_NoDeeds) = some false)
    (s_BadOrder_NoDoor : PySem.W.subIn K (.ref C_BadOrder) (.ref C_NoDoor) = some false)
    (s_BadOrder_NoEnd : PySem.W.subIn K (.ref C_BadOrder) (.ref C_NoEnd) = some false)
    (s_BadOrder_NoHouse : PySem.W.subIn K (.ref C_BadOrder) (.ref C_NoHouse) = some false)
    (s_BadOrder_NoMoment : PySem.W.subIn K (.ref C_BadOrder) (.ref C_NoMoment) = some false)
    (s_BadOrder_NoRoad : PySem.W.subIn K (.ref C_BadOrder) (.ref C_NoRoad) = some false)
    (s_BadOrder_NoRoads : PySem.W.subIn K (.ref C_BadOrder) (.ref C_NoRoads) = some false)
    (s_BadOrder_NoRoom : PySem.W.subIn K (.ref C_BadOrder) (.ref C_NoRoom) = some false)
    (s_BadOrder_NoStream : PySem.W.subIn K (.ref C_BadOrder) (.ref C_NoStream) = some false)
    (s_BadOrder_NoText : PySem.W.subIn K (.ref C_BadOrder) (.ref C_NoText) = some false)
    (s_BadOrder_NothingBack : PySem.W.subIn K (.ref C_BadOrder) (.ref C_NothingBack) = some false)
    (s_BadOrder_TooGreat : PySem.W.subIn K (.ref C_BadOrder) (.ref C_TooGreat) = some false)
    (s_BadOrder_TooMany : PySem.W.subIn K (.ref C_BadOrder) (.ref C_TooMany) = some false)
    (s_BadOrder_ValueError : PySem.W.subIn K (.ref C_BadOrder) (.type "ValueError") = some true)
    (s_BadOrder_WebError : PySem.W.subIn K (.ref C_BadOrder) (.ref C_WebError) = some true)
    (yk_BadOrder : PySem.W.keepIn K (.ref C_BadOrder) = true)
    (yx_BadOrder : PySem.W.excIn K C_BadOrder [.type "ValueError", .type "Exception", .type "BaseException", .type "object"] "ValueError.__new__" = true)
    (yb_TooMany : PySem.W.subIn K (.ref C_TooMany) (.type "BaseException") = some true)
    (ye0_TooMany : PySem.W.findIn K (.ref C_TooMany) "__getattribute__" = some (some (.builtin "BaseException.__getattribute__")))
    (ye1_TooMany : PySem.W.findIn K (.ref C_TooMany) "__getattr__" = some none)
    (ye2_TooMany : PySem.W.findIn K (.ref C_TooMany) "__class__" = some (some (.builtin "object.__class__")))
    (ye5_TooMany : PySem.W.mroIn K C_TooMany (.type "object") = some true)
    (s_TooMany_BadOrder : PySem.W.subIn K (.ref C_TooMany) (.ref C_BadOrder) = some false)
    (s_TooMany_BadWeb : PySem.W.subIn K (.ref C_TooMany) (.ref C_BadWeb) = some false)
    (s_TooMany_Broken : PySem.W.subIn K (.ref C_TooMany) (.ref C_Broken) = some false)
    (s_TooMany_Busy : PySem.W.subIn K (.ref C_TooMany) (.ref C_Busy) = some false)
    (s_TooMany_Full : PySem.W.subIn K (.ref C_TooMany) (.ref C_Full) = some false)
    (s_TooMany_Held : PySem.W.subIn K (.ref C_TooMany) (.ref C_Held) = some false)
    (s_TooMany_Last : PySem.W.subIn K (.ref C_TooMany) (.ref C_Last) = some false)
    (s_TooMany_Long : PySem.W.subIn K (.ref C_TooMany) (.ref C_Long) = some false)
    (s_TooMany_LookupError : PySem.W.subIn K (.ref C_TooMany) (.type "LookupError") = some false)
    (s_TooMany_NoDeeds : PySem.W.subIn K (.ref C_TooMany) (.ref C_NoDeeds) = some false)
    (s_TooMany_NoDoor : PySem.W.subIn K (.ref C_TooMany) (.ref C_NoDoor) = some false)
    (s_TooMany_NoEnd : PySem.W.subIn K (.ref C_TooMany) (.ref C_NoEnd) = some false)
    (s_TooMany_NoHouse : PySem.W.subIn K (.ref C_TooMany) (.ref C_NoHouse) = some false)
    (s_TooMany_NoMoment : PySem.W.subIn K (.ref C_TooMany) (.ref C_NoMoment) = some false)
    (s_TooMany_NoRoad : PySem.W.subIn K (.ref C_TooMany) (.ref C_NoRoad) = some false)
    (s_TooMany_NoRoads : PySem.W.subIn K (.ref C_TooMany) (.ref C_NoRoads) = some false)
    (s_TooMany_NoRoom : PySem.W.subIn K (.ref C_TooMany) (.ref C_NoRoom) = some false)
    (s_TooMany_NoStream : PySem.W.subIn K (.ref C_TooMany) (.ref C_NoStream) = some false)
    (s_TooMany_NoText : PySem.W.subIn K (.ref C_TooMany) (.ref C_NoText) = some false)
    (s_TooMany_NothingBack : PySem.W.subIn K (.ref C_TooMany) (.ref C_NothingBack) = some false)
    (s_TooMany_TooGreat : PySem.W.subIn K (.ref C_TooMany) (.ref C_TooGreat) = some false)
    (s_TooMany_TooMany : PySem.W.subIn K (.ref C_TooMany) (.ref C_TooMany) = some true)
    (s_TooMany_ValueError : PySem.W.subIn K (.ref C_TooMany) (.type "ValueError") = some true)
    (s_TooMany_WebError : PySem.W.subIn K (.ref C_TooMany) (.ref C_WebError) = some true)
    (no_TooMany_bound : PySem.W.findIn K (.ref C_TooMany) "bound" = some none)
    (yk_TooMany : PySem.W.keepIn K (.ref C_TooMany) = true)
    (vl_TooMany : K.lookup C_TooMany = some o_TooMany)
    (vo_TooMany : oexO C_TooMany o_TooMany = true)
    (vs_TooMany : PySem.W.findIn K (.ref C_TooMany) "__setattr__" = some (some (.builtin "object.__setattr__")))
    (vi_TooMany : PySem.W.findIn K (.ref C_TooMany) "__init__" = some (some (.ref I_TooMany)))
    (vt_TooMany : PySem.W.typeIn K (.ref I_TooMany) = some (.type "function"))
    (vf_TooMany : K.lookup I_TooMany = some ⟨ocI_TooMany, odI_TooMany, .func (PySem.W.fnOf "__init__" "TooMany.__init__" (defArgs s_initTooMany) (defBody s_initTooMany) (defScope s_initTooMany) .none kVI_TooMany dcI_TooMany pmI_TooMany anI_TooMany cdI_TooMany ctI_TooMany), slI_TooMany⟩)
    (vc_TooMany : PySem.W.codeIn K cdI_TooMany "TooMany.__init__" = true)
    (yb_Long : PySem.W.subIn K (.ref C_Long) (.type "BaseException") = some true)
    (ye0_Long : PySem.W.findIn K (.ref C_Long) "__getattribute__" = some (some (.builtin "BaseException.__getattribute__")))
    (ye1_Long : PySem.W.findIn K (.ref C_Long) "__getattr__" = some none)
    (ye2_Long : PySem.W.findIn K (.ref C_Long) "__class__" = some (some (.builtin "object.__class__")))
    (ye5_Long : PySem.W.mroIn K C_Long (.type "object") = some true)
    (s_Long_BadOrder : PySem.W.subIn K (.ref C_Long) (.ref C_BadOrder) = some false)
    (s_Long_BadWeb : PySem.W.subIn K (.ref C_Long) (.ref C_BadWeb) = some false)
    (s_Long_Broken : PySem.W.subIn K (.ref C_Long) (.ref C_Broken) = some false)
    (s_Long_Busy : PySem.W.subIn K (.ref C_Long) (.ref C_Busy) = some false)
    (s_Long_Full : PySem.W.subIn K (.ref C_Long) (.ref C_Full) = some false)
    (s_Long_Held : PySem.W.subIn K (.ref C_Long) (.ref C_Held) = some false)
    (s_Long_Last : PySem.W.subIn K (.ref C_Long) (.ref C_Last) = some false)
    (s_Long_Long : PySem.W.subIn K (.ref C_Long) (.ref C_Long) = some true)
    (s_Long_LookupError : PySem.W.subIn K (.ref C_Long) (.type "LookupError") = some false)
    (s_Long_NoDeeds : PySem.W.subIn K (.ref C_Long) (.ref C_NoDeeds) = some false)
    (s_Long_NoDoor : PySem.W.subIn K (.ref C_Long) (.ref C_NoDoor) = some false)
    (s_Long_NoEnd : PySem.W.subIn K (.ref C_Long) (.ref C_NoEnd) = some false)
    (s_Long_NoHouse : PySem.W.subIn K (.ref C_Long) (.ref C_NoHouse) = some false)
    (s_Long_NoMoment : PySem.W.subIn K (.ref C_Long) (.ref C_NoMoment) = some false)
    (s_Long_NoRoad : PySem.W.subIn K (.ref C_Long) (.ref C_NoRoad) = some false)
    (s_Long_NoRoads : PySem.W.subIn K (.ref C_Long) (.ref C_NoRoads) = some false)
    (s_Long_NoRoom : PySem.W.subIn K (.ref C_Long) (.ref C_NoRoom) = some false)
    (s_Long_NoStream : PySem.W.subIn K (.ref C_Long) (.ref C_NoStream) = some false)
    (s_Long_NoText : PySem.W.subIn K (.ref C_Long) (.ref C_NoText) = some false)
    (s_Long_NothingBack : PySem.W.subIn K (.ref C_Long) (.ref C_NothingBack) = some false)
    (s_Long_TooGreat : PySem.W.subIn K (.ref C_Long) (.ref C_TooGreat) = some false)
    (s_Long_TooMany : PySem.W.subIn K (.ref C_Long) (.ref C_TooMany) = some false)
    (s_Long_ValueError : PySem.W.subIn K (.ref C_Long) (.type "ValueError") = some true)
    (s_Long_WebError : PySem.W.subIn K (.ref C_Long) (.ref C_WebError) = some true)
    (yk_Long : PySem.W.keepIn K (.ref C_Long) = true)
    (yx_Long : PySem.W.excIn K C_Long [.type "ValueError", .type "Exception", .type "BaseException", .type "object"] "ValueError.__new__" = true)
    (yb_Busy : PySem.W.subIn K (.ref C_Busy) (.type "BaseException") = some true)
    (ye0_Busy : PySem.W.findIn K (.ref C_Busy) "__getattribute__" = some (some (.builtin "BaseException.__getattribute__")))
    (ye1_Busy : PySem.W.findIn K (.ref C_Busy) "__getattr__" = some none)
    (ye2_Busy : PySem.W.findIn K (.ref C_Busy) "__class__" = some (some (.builtin "object.__class__")))
    (ye5_Busy : PySem.W.mroIn K C_Busy (.type "object") = some true)
    (s_Busy_BadOrder : PySem.W.subIn K (.ref C_Busy) (.ref C_BadOrder) = some false)
    (s_Busy_BadWeb : PySem.W.subIn K (.ref C_Busy) (.ref C_BadWeb) = some false)
    (s_Busy_Broken : PySem.W.subIn K (.ref C_Busy) (.ref C_Broken) = some false)
    (s_Busy_Busy : PySem.W.subIn K (.ref C_Busy) (.ref C_Busy) = some true)
    (s_Busy_Full : PySem.W.subIn K (.ref C_Busy) (.ref C_Full) = some false)
    (s_Busy_Held : PySem.W.subIn K (.ref C_Busy) (.ref C_Held) = some false)
    (s_Busy_Last : PySem.W.subIn K (.ref C_Busy) (.ref C_Last) = some false)
    (s_Busy_Long : PySem.W.subIn K (.ref C_Busy) (.ref C_Long) = some false)
    (s_Busy_LookupError : PySem.W.subIn K (.ref C_Busy) (.type "LookupError") = some false)
    (s_Busy_NoDeeds : PySem.W.subIn K (.ref C_Busy) (.ref C_NoDeeds) = some false)
    (s_Busy_NoDoor : PySem.W.subIn K (.ref C_Busy) (.ref C_NoDoor) = some false)
    (s_Busy_NoEnd : PySem.W.subIn K (.ref C_Busy) (.ref C_NoEnd) = some false)
    (s_Busy_NoHouse : PySem.W.subIn K (.ref C_Busy) (.ref C_NoHouse) = some false)
    (s_Busy_NoMoment : PySem.W.subIn K (.ref C_Busy) (.ref C_NoMoment) = some false)
    (s_Busy_NoRoad : PySem.W.subIn K (.ref C_Busy) (.ref C_NoRoad) = some false)
    (s_Busy_NoRoads : PySem.W.subIn K (.ref C_Busy) (.ref C_NoRoads) = some false)
    (s_Busy_NoRoom : PySem.W.subIn K (.ref C_Busy) (.ref C_NoRoom) = some false)
    (s_Busy_NoStream : PySem.W.subIn K (.ref C_Busy) (.ref C_NoStream) = some false)
    (s_Busy_NoText : PySem.W.subIn K (.ref C_Busy) (.ref C_NoText) = some false)
    (s_Busy_NothingBack : PySem.W.subIn K (.ref C_Busy) (.ref C_NothingBack) = some false)
    (s_Busy_TooGreat : PySem.W.subIn K (.ref C_Busy) (.ref C_TooGreat) = some false)
    (s_Busy_TooMany : PySem.W.subIn K (.ref C_Busy) (.ref C_TooMany) = some false)
    (s_Busy_ValueError : PySem.W.subIn K (.ref C_Busy) (.type "ValueError") = some true)
    (s_Busy_WebError : PySem.W.subIn K (.ref C_Busy) (.ref C_WebError) = some true)
    (yk_Busy : PySem.W.keepIn K (.ref C_Busy) = true)
    (yx_Busy : PySem.W.excIn K C_Busy [.type "ValueError", .type "Exception", .type "BaseException", .type "object"] "ValueError.__new__" = true)
    (yb_NothingBack : PySem.W.subIn K (.ref C_NothingBack) (.type "BaseException") = some true)
    (ye0_NothingBack : PySem.W.findIn K (.ref C_NothingBack) "__getattribute__" = some (some (.builtin "BaseException.__getattribute__")))
    (ye1_NothingBack : PySem.W.findIn K (.ref C_NothingBack) "__getattr__" = some none)
    (ye2_NothingBack : PySem.W.findIn K (.ref C_NothingBack) "__class__" = some (some (.builtin "object.__class__")))
    (ye5_NothingBack : PySem.W.mroIn K C_NothingBack (.type "object") = some true)
    (s_NothingBack_BadOrder : PySem.W.subIn K (.ref C_NothingBack) (.ref C_BadOrder) = some false)
    (s_NothingBack_BadWeb : PySem.W.subIn K (.ref C_NothingBack) (.ref C_BadWeb) = some false)
    (s_NothingBack_Broken : PySem.W.subIn K (.ref C_NothingBack) (.ref C_Broken) = some false)
    (s_NothingBack_Busy : PySem.W.subIn K (.ref C_NothingBack) (.ref C_Busy) = some false)
    (s_NothingBack_Full : PySem.W.subIn K (.ref C_NothingBack) (.ref C_Full) = some false)
    (s_NothingBack_Held : PySem.W.subIn K (.ref C_NothingBack) (.ref C_Held) = some false)
    (s_NothingBack_Last : PySem.W.subIn K (.ref C_NothingBack) (.ref C_Last) = some false)
    (s_NothingBack_Long : PySem.W.subIn K (.ref C_NothingBack) (.ref C_Long) = some false)
    (s_NothingBack_LookupError : PySem.W.subIn K (.ref C_NothingBack) (.type "LookupError") = some false)
    (s_NothingBack_NoDeeds : PySem.W.subIn K (.ref C_NothingBack) (.ref C_NoDeeds) = some false)
    (s_NothingBack_NoDoor : PySem.W.subIn K (.ref C_NothingBack) (.ref C_NoDoor) = some false)
    (s_NothingBack_NoEnd : PySem.W.subIn K (.ref C_NothingBack) (.ref C_NoEnd) = some false)
    (s_NothingBack_NoHouse : PySem.W.subIn K (.ref C_NothingBack) (.ref C_NoHouse) = some false)
    (s_NothingBack_NoMoment : PySem.W.subIn K (.ref C_NothingBack) (.ref C_NoMoment) = some false)
    (s_NothingBack_NoRoad : PySem.W.subIn K (.ref C_NothingBack) (.ref C_NoRoad) = some false)
    (s_NothingBack_NoRoads : PySem.W.subIn K (.ref C_NothingBack) (.ref C_NoRoads) = some false)
    (s_NothingBack_NoRoom : PySem.W.subIn K (.ref C_NothingBack) (.ref C_NoRoom) = some false)
    (s_NothingBack_NoStream : PySem.W.subIn K (.ref C_NothingBack) (.ref C_NoStream) = some false)
    (s_NothingBack_NoText : PySem.W.subIn K (.ref C_NothingBack) (.ref C_NoText) = some false)
    (s_NothingBack_NothingBack : PySem.W.subIn K (.ref C_NothingBack) (.ref C_NothingBack) = some true)
    (s_NothingBack_TooGreat : PySem.W.subIn K (.ref C_NothingBack) (.ref C_TooGreat) = some false)
    (s_NothingBack_TooMany : PySem.W.subIn K (.ref C_NothingBack) (.ref C_TooMany) = some false)
    (s_NothingBack_ValueError : PySem.W.subIn K (.ref C_NothingBack) (.type "ValueError") = some true)
    (s_NothingBack_WebError : PySem.W.subIn K (.ref C_NothingBack) (.ref C_WebError) = some true)
    (yk_NothingBack : PySem.W.keepIn K (.ref C_NothingBack) = true)
    (yx_NothingBack : PySem.W.excIn K C_NothingBack [.type "ValueError", .type "Exception", .type "BaseException", .type "object"] "ValueError.__new__" = true)
    (yb_NoDeeds : PySem.W.subIn K (.ref C_NoDeeds) (.type "BaseException") = some true)
    (ye0_NoDeeds : PySem.W.findIn K (.ref C_NoDeeds) "__getattribute__" = some (some (.builtin "BaseException.__getattribute__")))
    (ye1_NoDeeds : PySem.W.findIn K (.ref C_NoDeeds) "__getattr__" = some none)
    (ye2_NoDeeds : PySem.W.findIn K (.ref C_NoDeeds) "__class__" = some (some (.builtin "object.__class__")))
    (ye5_NoDeeds : PySem.W.mroIn K C_NoDeeds (.type "object") = some true)
    (s_NoDeeds_BadOrder : PySem.W.subIn K (.ref C_NoDeeds) (.ref C_BadOrder) = some false)
    (s_NoDeeds_BadWeb : PySem.W.subIn K (.ref C_NoDeeds) (.ref C_BadWeb) = some false)
    (s_NoDeeds_Broken : PySem.W.subIn K (.ref C_NoDeeds) (.ref C_Broken) = some false)
    (s_NoDeeds_Busy : PySem.W.subIn K (.ref C_NoDeeds) (.ref C_Busy) = some false)
    (s_NoDeeds_Full : PySem.W.subIn K (.ref C_NoDeeds) (.ref C_Full) = some false)
    (s_NoDeeds_Held : PySem.W.subIn K (.ref C_NoDeeds) (.ref C_Held) = some false)
    (s_NoDeeds_Last : PySem.W.subIn K (.ref C_NoDeeds) (.ref C_Last) = some false)
    (s_NoDeeds_Long : PySem.W.subIn K (.ref C_NoDeeds) (.ref C_Long) = some false)
    (s_NoDeeds_LookupError : PySem.W.subIn K (.ref C_NoDeeds) (.type "LookupError") = some false)
    (s_NoDeeds_NoDeeds : PySem.W.subIn K (.ref C_NoDeeds) (.ref C_NoDeeds) = some true)
    (s_NoDeeds_NoDoor : PySem.W.subIn K (.ref C_NoDeeds) (.ref C_NoDoor) = some false)
    (s_NoDeeds_NoEnd : PySem.W.subIn K (.ref C_NoDeeds) (.ref C_NoEnd) = some false)
    (s_NoDeeds_NoHouse : PySem.W.subIn K (.ref C_NoDeeds) (.ref C_NoHouse) = some false)
    (s_NoDeeds_NoMoment : PySem.W.subIn K (.ref C_NoDeeds) (.ref C_NoMoment) = some false)
    (s_NoDeeds_NoRoad : PySem.W.subIn K (.ref C_NoDeeds) (.ref C_NoRoad) = some false)
    (s_NoDeeds_NoRoads : PySem.W.subIn K (.ref C_NoDeeds) (.ref C_NoRoads) = some false)
    (s_NoDeeds_NoRoom : PySem.W.subIn K (.ref C_NoDeeds) (.ref C_NoRoom) = some false)
    (s_NoDeeds_NoStream : PySem.W.subIn K (.ref C_NoDeeds) (.ref C_NoStream) = some false)
    (s_NoDeeds_NoText : PySem.W.subIn K (.ref C_NoDeeds) (.ref C_NoText) = some false)
    (s_NoDeeds_NothingBack : PySem.W.subIn K (.ref C_NoDeeds) (.ref C_NothingBack) = some false)
    (s_NoDeeds_TooGreat : PySem.W.subIn K (.ref C_NoDeeds) (.ref C_TooGreat) = some false)
    (s_NoDeeds_TooMany : PySem.W.subIn K (.ref C_NoDeeds) (.ref C_TooMany) = some false)
    (s_NoDeeds_ValueError : PySem.W.subIn K (.ref C_NoDeeds) (.type "ValueError") = some true)
    (s_NoDeeds_WebError : PySem.W.subIn K (.ref C_NoDeeds) (.ref C_WebError) = some true)
    (yk_NoDeeds : PySem.W.keepIn K (.ref C_NoDeeds) = true)
    (yx_NoDeeds : PySem.W.excIn K C_NoDeeds [.type "ValueError", .type "Exception", .type "BaseException", .type "object"] "ValueError.__new__" = true)
    (yb_Broken : PySem.W.subIn K (.ref C_Broken) (.type "BaseException") = some true)
    (ye0_Broken : PySem.W.findIn K (.ref C_Broken) "__getattribute__" = some (some (.builtin "BaseException.__getattribute__")))
    (ye1_Broken : PySem.W.findIn K (.ref C_Broken) "__getattr__" = some none)
    (ye2_Broken : PySem.W.findIn K (.ref C_Broken) "__class__" = some (some (.builtin "object.__class__")))
    (ye5_Broken : PySem.W.mroIn K C_Broken (.type "object") = some true)
    (s_Broken_BadOrder : PySem.W.subIn K (.ref C_Broken) (.ref C_BadOrder) = some false)
    (s_Broken_BadWeb : PySem.W.subIn K (.ref C_Broken) (.ref C_BadWeb) = some false)
    (s_Broken_Broken : PySem.W.subIn K (.ref C_Broken) (.ref C_Broken) = some true)
    (s_Broken_Busy : PySem.W.subIn K (.ref C_Broken) (.ref C_Busy) = some false)
    (s_Broken_Full : PySem.W.subIn K (.ref C_Broken) (.ref C_Full) = some false)
    (s_Broken_Held : PySem.W.subIn K (.ref C_Broken) (.ref C_Held) = some false)
    (s_Broken_Last : PySem.W.subIn K (.ref C_Broken) (.ref C_Last) = some false)
    (s_Broken_Long : PySem.W.subIn K (.ref C_Broken) (.ref C_Long) = some false)
    (s_Broken_LookupError : PySem.W.subIn K (.ref C_Broken) (.type "LookupError") = some false)
    (s_Broken_NoDeeds : PySem.W.subIn K (.ref C_Broken) (.ref C_NoDeeds) = some false)
    (s_Broken_NoDoor : PySem.W.subIn K (.ref C_Broken) (.ref C_NoDoor) = some false)
    (s_Broken_NoEnd : PySem.W.subIn K (.ref C_Broken) (.ref C_NoEnd) = some false)
    (s_Broken_NoHouse : PySem.W.subIn K (.ref C_Broken) (.ref C_NoHouse) = some false)
    (s_Broken_NoMoment : PySem.W.subIn K (.ref C_Broken) (.ref C_NoMoment) = some false)
    (s_Broken_NoRoad : PySem.W.subIn K (.ref C_Broken) (.ref C_NoRoad) = some false)
    (s_Broken_NoRoads : PySem.W.subIn K (.ref C_Broken) (.ref C_NoRoads) = some false)
    (s_Broken_NoRoom : PySem.W.subIn K (.ref C_Broken) (.ref C_NoRoom) = some false)
    (s_Broken_NoStream : PySem.W.subIn K (.ref C_Broken) (.ref C_NoStream) = some false)
    (s_Broken_NoText : PySem.W.subIn K (.ref C_Broken) (.ref C_NoText) = some false)
    (s_Broken_NothingBack : PySem.W.subIn K (.ref C_Broken) (.ref C_NothingBack) = some false)
    (s_Broken_TooGreat : PySem.W.subIn K (.ref C_Broken) (.ref C_TooGreat) = some false)
    (s_Broken_TooMany : PySem.W.subIn K (.ref C_Broken) (.ref C_TooMany) = some false)
    (s_Broken_ValueError : PySem.W.subIn K (.ref C_Broken) (.type "ValueError") = some true)
    (s_Broken_WebError : PySem.W.subIn K (.ref C_Broken) (.ref C_WebError) = some true)
    (no_Broken_number : PySem.W.findIn K (.ref C_Broken) "number" = some none)
    (yk_Broken : PySem.W.keepIn K (.ref C_Broken) = true)
    (vl_Broken : K.lookup C_Broken = some o_Broken)
    (vo_Broken : oexO C_Broken o_Broken = true)
    (vs_Broken : PySem.W.findIn K (.ref C_Broken) "__setattr__" = some (some (.builtin "object.__setattr__")))
    (vi_Broken : PySem.W.findIn K (.ref C_Broken) "__init__" = some (some (.ref I_Broken)))
    (vt_Broken : PySem.W.typeIn K (.ref I_Broken) = some (.type "function"))
    (vf_Broken : K.lookup I_Broken = some ⟨ocI_Broken, odI_Broken, .func (PySem.W.fnOf "__init__" "Broken.__init__" (defArgs s_initBroken) (defBody s_initBroken) (defScope s_initBroken) .none kVI_Broken dcI_Broken pmI_Broken anI_Broken cdI_Broken ctI_Broken), slI_Broken⟩)
    (vc_Broken : PySem.W.codeIn K cdI_Broken "Broken.__init__" = true)
    (yb_Last : PySem.W.subIn K (.ref C_Last) (.type "BaseException") = some true)
    (ye0_Last : PySem.W.findIn K (.ref C_Last) "__getattribute__" = some (some (.builtin "BaseException.__getattribute__")))
    (ye1_Last : PySem.W.findIn K (.ref C_Last) "__getattr__" = some none)
    (ye2_Last : PySem.W.findIn K (.ref C_Last) "__class__" = some (some (.builtin "object.__class__")))
    (ye5_Last : PySem.W.mroIn K C_Last (.type "object") = some true)
    (s_Last_BadOrder : PySem.W.subIn K (.ref C_Last) (.ref C_BadOrder) = some false)
    (s_Last_BadWeb : PySem.W.subIn K (.ref C_Last) (.ref C_BadWeb) = some false)
    (s_Last_Broken : PySem.W.subIn K (.ref C_Last) (.ref C_Broken) = some false)
    (s_Last_Busy : PySem.W.subIn K (.ref C_Last) (.ref C_Busy) = some false)
    (s_Last_Full : PySem.W.subIn K (.ref C_Last) (.ref C_Full) = some false)
    (s_Last_Held : PySem.W.subIn K (.ref C_Last) (.ref C_Held) = some false)
    (s_Last_Last : PySem.W.subIn K (.ref C_Last) (.ref C_Last) = some true)
    (s_Last_Long : PySem.W.subIn K (.ref C_Last) (.ref C_Long) = some false)
    (s_Last_LookupError : PySem.W.subIn K (.ref C_Last) (.type "LookupError") = some false)
    (s_Last_NoDeeds : PySem.W.subIn K (.ref C_Last) (.ref C_NoDeeds) = some false)
    (s_Last_NoDoor : PySem.W.subIn K (.ref C_Last) (.ref C_NoDoor) = some false)
    (s_Last_NoEnd : PySem.W.subIn K (.ref C_Last) (.ref C_NoEnd) = some false)
    (s_Last_NoHouse : PySem.W.subIn K (.ref C_Last) (.ref C_NoHouse) = some false)
    (s_Last_NoMoment : PySem.W.subIn K (.ref C_Last) (.ref C_NoMoment) = some false)
    (s_Last_NoRoad : PySem.W.subIn K (.ref C_Last) (.ref C_NoRoad) = some false)
    (s_Last_NoRoads : PySem.W.subIn K (.ref C_Last) (.ref C_NoRoads) = some false)
    (s_Last_NoRoom : PySem.W.subIn K (.ref C_Last) (.ref C_NoRoom) = some false)
    (s_Last_NoStream : PySem.W.subIn K (.ref C_Last) (.ref C_NoStream) = some false)
    (s_Last_NoText : PySem.W.subIn K (.ref C_Last) (.ref C_NoText) = some false)
    (s_Last_NothingBack : PySem.W.subIn K (.ref C_Last) (.ref C_NothingBack) = some false)
    (s_Last_TooGreat : PySem.W.subIn K (.ref C_Last) (.ref C_TooGreat) = some false)
    (s_Last_TooMany : PySem.W.subIn K (.ref C_Last) (.ref C_TooMany) = some false)
    (s_Last_ValueError : PySem.W.subIn K (.ref C_Last) (.type "ValueError") = some true)
    (s_Last_WebError : PySem.W.subIn K (.ref C_Last) (.ref C_WebError) = some true)
    (yk_Last : PySem.W.keepIn K (.ref C_Last) = true)
    (yx_Last : PySem.W.excIn K C_Last [.type "ValueError", .type "Exception", .type "BaseException", .type "object"] "ValueError.__new__" = true)
    (yb_Held : PySem.W.subIn K (.ref C_Held) (.type "BaseException") = some true)
    (ye0_Held : PySem.W.findIn K (.ref C_Held) "__getattribute__" = some (some (.builtin "BaseException.__getattribute__")))
    (ye1_Held : PySem.W.findIn K (.ref C_Held) "__getattr__" = some none)
    (ye2_Held : PySem.W.findIn K (.ref C_Held) "__class__" = some (some (.builtin "object.__class__")))
    (ye5_Held : PySem.W.mroIn K C_Held (.type "object") = some true)
    (s_Held_BadOrder : PySem.W.subIn K (.ref C_Held) (.ref C_BadOrder) = some false)
    (s_Held_BadWeb : PySem.W.subIn K (.ref C_Held) (.ref C_BadWeb) = some false)
    (s_Held_Broken : PySem.W.subIn K (.ref C_Held) (.ref C_Broken) = some false)
    (s_Held_Busy : PySem.W.subIn K (.ref C_Held) (.ref C_Busy) = some false)
    (s_Held_Full : PySem.W.subIn K (.ref C_Held) (.ref C_Full) = some false)
    (s_Held_Held : PySem.W.subIn K (.ref C_Held) (.ref C_Held) = some true)
    (s_Held_Last : PySem.W.subIn K (.ref C_Held) (.ref C_Last) = some false)
    (s_Held_Long : PySem.W.subIn K (.ref C_Held) (.ref C_Long) = some false)
    (s_Held_LookupError : PySem.W.subIn K (.ref C_Held) (.type "LookupError") = some false)
    (s_Held_NoDeeds : PySem.W.subIn K (.ref C_Held) (.ref C_NoDeeds) = some false)
    (s_Held_NoDoor : PySem.W.subIn K (.ref C_Held) (.ref C_NoDoor) = some false)
    (s_Held_NoEnd : PySem.W.subIn K (.ref C_Held) (.ref C_NoEnd) = some false)
    (s_Held_NoHouse : PySem.W.subIn K (.ref C_Held) (.ref C_NoHouse) = some false)
    (s_Held_NoMoment : PySem.W.subIn K (.ref C_Held) (.ref C_NoMoment) = some false)
    (s_Held_NoRoad : PySem.W.subIn K (.ref C_Held) (.ref C_NoRoad) = some false)
    (s_Held_NoRoads : PySem.W.subIn K (.ref C_Held) (.ref C_NoRoads) = some false)
    (s_Held_NoRoom : PySem.W.subIn K (.ref C_Held) (.ref C_NoRoom) = some false)
    (s_Held_NoStream : PySem.W.subIn K (.ref C_Held) (.ref C_NoStream) = some false)
    (s_Held_NoText : PySem.W.subIn K (.ref C_Held) (.ref C_NoText) = some false)
    (s_Held_NothingBack : PySem.W.subIn K (.ref C_Held) (.ref C_NothingBack) = some false)
    (s_Held_TooGreat : PySem.W.subIn K (.ref C_Held) (.ref C_TooGreat) = some false)
    (s_Held_TooMany : PySem.W.subIn K (.ref C_Held) (.ref C_TooMany) = some false)
    (s_Held_ValueError : PySem.W.subIn K (.ref C_Held) (.type "ValueError") = some true)
    (s_Held_WebError : PySem.W.subIn K (.ref C_Held) (.ref C_WebError) = some true)
    (yk_Held : PySem.W.keepIn K (.ref C_Held) = true)
    (yx_Held : PySem.W.excIn K C_Held [.type "ValueError", .type "Exception", .type "BaseException", .type "object"] "ValueError.__new__" = true)
    (yb_NoRoom : PySem.W.subIn K (.ref C_NoRoom) (.type "BaseException") = some true)
    (ye0_NoRoom : PySem.W.findIn K (.ref C_NoRoom) "__getattribute__" = some (some (.builtin "BaseException.__getattribute__")))
    (ye1_NoRoom : PySem.W.findIn K (.ref C_NoRoom) "__getattr__" = some none)
    (ye2_NoRoom : PySem.W.findIn K (.ref C_NoRoom) "__class__" = some (some (.builtin "object.__class__")))
    (ye5_NoRoom : PySem.W.mroIn K C_NoRoom (.type "object") = some true)
    (s_NoRoom_BadOrder : PySem.W.subIn K (.ref C_NoRoom) (.ref C_BadOrder) = some false)
    (s_NoRoom_BadWeb : PySem.W.subIn K (.ref C_NoRoom) (.ref C_BadWeb) = some false)
    (s_NoRoom_Broken : PySem.W.subIn K (.ref C_NoRoom) (.ref C_Broken) = some false)
    (s_NoRoom_Busy : PySem.W.subIn K (.ref C_NoRoom) (.ref C_Busy) = some false)
    (s_NoRoom_Full : PySem.W.subIn K (.ref C_NoRoom) (.ref C_Full) = some false)
    (s_NoRoom_Held : PySem.W.subIn K (.ref C_NoRoom) (.ref C_Held) = some false)
    (s_NoRoom_Last : PySem.W.subIn K (.ref C_NoRoom) (.ref C_Last) = some false)
    (s_NoRoom_Long : PySem.W.subIn K (.ref C_NoRoom) (.ref C_Long) = some false)
    (s_NoRoom_LookupError : PySem.W.subIn K (.ref C_NoRoom) (.type "LookupError") = some false)
    (s_NoRoom_NoDeeds : PySem.W.subIn K (.ref C_NoRoom) (.ref C_NoDeeds) = some false)
    (s_NoRoom_NoDoor : PySem.W.subIn K (.ref C_NoRoom) (.ref C_NoDoor) = some false)
    (s_NoRoom_NoEnd : PySem.W.subIn K (.ref C_NoRoom) (.ref C_NoEnd) = some false)
    (s_NoRoom_NoHouse : PySem.W.subIn K (.ref C_NoRoom) (.ref C_NoHouse) = some false)
    (s_NoRoom_NoMoment : PySem.W.subIn K (.ref C_NoRoom) (.ref C_NoMoment) = some false)
    (s_NoRoom_NoRoad : PySem.W.subIn K (.ref C_NoRoom) (.ref C_NoRoad) = some false)
    (s_NoRoom_NoRoads : PySem.W.subIn K (.ref C_NoRoom) (.ref C_NoRoads) = some false)
    (s_NoRoom_NoRoom : PySem.W.subIn K (.ref C_NoRoom) (.ref C_NoRoom) = some true)
    (s_NoRoom_NoStream : PySem.W.subIn K (.ref C_NoRoom) (.ref C_NoStream) = some false)
    (s_NoRoom_NoText : PySem.W.subIn K (.ref C_NoRoom) (.ref C_NoText) = some false)
    (s_NoRoom_NothingBack : PySem.W.subIn K (.ref C_NoRoom) (.ref C_NothingBack) = some false)
    (s_NoRoom_TooGreat : PySem.W.subIn K (.ref C_NoRoom) (.ref C_TooGreat) = some false)
    (s_NoRoom_TooMany : PySem.W.subIn K (.ref C_NoRoom) (.ref C_TooMany) = some false)
    (s_NoRoom_ValueError : PySem.W.subIn K (.ref C_NoRoom) (.type "ValueError") = some true)
    (s_NoRoom_WebError : PySem.W.subIn K (.ref C_NoRoom) (.ref C_WebError) = some true)
    (no_NoRoom_room : PySem.W.findIn K (.ref C_NoRoom) "room" = some none)
    (yk_NoRoom : PySem.W.keepIn K (.ref C_NoRoom) = true)
    (vl_NoRoom : K.lookup C_NoRoom = some o_NoRoom)
    (vo_NoRoom : oexO C_NoRoom o_NoRoom = true)
    (vs_NoRoom : PySem.W.findIn K (.ref C_NoRoom) "__setattr__" = some (some (.builtin "object.__setattr__")))
    (vi_NoRoom : PySem.W.findIn K (.ref C_NoRoom) "__init__" = some (some (.ref I_NoRoom)))
    (vt_NoRoom : PySem.W.typeIn K (.ref I_NoRoom) = some (.type "function"))
    (vf_NoRoom : K.lookup I_NoRoom = some ⟨ocI_NoRoom, odI_NoRoom, .func (PySem.W.fnOf "__init__" "NoRoom.__init__" (defArgs s_initNoRoom) (defBody s_initNoRoom) (defScope s_initNoRoom) .none kVI_NoRoom dcI_NoRoom pmI_NoRoom anI_NoRoom cdI_NoRoom ctI_NoRoom), slI_NoRoom⟩)
    (vc_NoRoom : PySem.W.codeIn K cdI_NoRoom "NoRoom.__init__" = true)
    (yb_NoStream : PySem.W.subIn K (.ref C_NoStream) (.type "BaseException") = some true)
    (ye0_NoStream : PySem.W.findIn K (.ref C_NoStream) "__getattribute__" = some (some (.builtin "BaseException.__getattribute__")))
    (ye1_NoStream : PySem.W.findIn K (.ref C_NoStream) "__getattr__" = some none)
    (ye2_NoStream : PySem.W.findIn K (.ref C_NoStream) "__class__" = some (some (.builtin "object.__class__")))
    (ye5_NoStream : PySem.W.mroIn K C_NoStream (.type "object") = some true)
    (s_NoStream_BadOrder : PySem.W.subIn K (.ref C_NoStream) (.ref C_BadOrder) = some false)
    (s_NoStream_BadWeb : PySem.W.subIn K (.ref C_NoStream) (.ref C_BadWeb) = some false)
    (s_NoStream_Broken : PySem.W.subIn K (.ref C_NoStream) (.ref C_Broken) = some false)
    (s_NoStream_Busy : PySem.W.subIn K (.ref C_NoStream) (.ref C_Busy) = some false)
    (s_NoStream_Full : PySem.W.subIn K (.ref C_NoStream) (.ref C_Full) = some false)
    (s_NoStream_Held : PySem.W.subIn K (.ref C_NoStream) (.ref C_Held) = some false)
    (s_NoStream_Last : PySem.W.subIn K (.ref C_NoStream) (.ref C_Last) = some false)
    (s_NoStream_Long : PySem.W.subIn K (.ref C_NoStream) (.ref C_Long) = some false)
    (s_NoStream_LookupError : PySem.W.subIn K (.ref C_NoStream) (.type "LookupError") = some false)
    (s_NoStream_NoDeeds : PySem.W.subIn K (.ref C_NoStream) (.ref C_NoDeeds) = some false)
    (s_NoStream_NoDoor : PySem.W.subIn K (.ref C_NoStream) (.ref C_NoDoor) = some false)
    (s_NoStream_NoEnd : PySem.W.subIn K (.ref C_NoStream) (.ref C_NoEnd) = some false)
    (s_NoStream_NoHouse : PySem.W.subIn K (.ref C_NoStream) (.ref C_NoHouse) = some false)
    (s_NoStream_NoMoment : PySem.W.subIn K (.ref C_NoStream) (.ref C_NoMoment) = some false)
    (s_NoStream_NoRoad : PySem.W.subIn K (.ref C_NoStream) (.ref C_NoRoad) = some false)
    (s_NoStream_NoRoads : PySem.W.subIn K (.ref C_NoStream) (.ref C_NoRoads) = some false)
    (s_NoStream_NoRoom : PySem.W.subIn K (.ref C_NoStream) (.ref C_NoRoom) = some false)
    (s_NoStream_NoStream : PySem.W.subIn K (.ref C_NoStream) (.ref C_NoStream) = some true)
    (s_NoStream_NoText : PySem.W.subIn K (.ref C_NoStream) (.ref C_NoText) = some false)
    (s_NoStream_NothingBack : PySem.W.subIn K (.ref C_NoStream) (.ref C_NothingBack) = some false)
    (s_NoStream_TooGreat : PySem.W.subIn K (.ref C_NoStream) (.ref C_TooGreat) = some false)
    (s_NoStream_TooMany : PySem.W.subIn K (.ref C_NoStream) (.ref C_TooMany) = some false)
    (s_NoStream_ValueError : PySem.W.subIn K (.ref C_NoStream) (.type "ValueError") = some true)
    (s_NoStream_WebError : PySem.W.subIn K (.ref C_NoStream) (.ref C_WebError) = some true)
    (no_NoStream_fault : PySem.W.findIn K (.ref C_NoStream) "fault" = some none)
    (yk_NoStream : PySem.W.keepIn K (.ref C_NoStream) = true)
    (vl_NoStream : K.lookup C_NoStream = some o_NoStream)
    (vo_NoStream : oexO C_NoStream o_NoStream = true)
    (vs_NoStream : PySem.W.findIn K (.ref C_NoStream) "__setattr__" = some (some (.builtin "object.__setattr__")))
    (vi_NoStream : PySem.W.findIn K (.ref C_NoStream) "__init__" = some (some (.ref I_NoStream)))
    (vt_NoStream : PySem.W.typeIn K (.ref I_NoStream) = some (.type "function"))
    (vf_NoStream : K.lookup I_NoStream = some ⟨ocI_NoStream, odI_NoStream, .func (PySem.W.fnOf "__init__" "NoStream.__init__" (defArgs s_initNoStream) (defBody s_initNoStream) (defScope s_initNoStream) .none kVI_NoStream dcI_NoStream pmI_NoStream anI_NoStream cdI_NoStream ctI_NoStream), slI_NoStream⟩)
    (vc_NoStream : PySem.W.codeIn K cdI_NoStream "NoStream.__init__" = true)
    (yb_NoText : PySem.W.subIn K (.ref C_NoText) (.type "BaseException") = some true)
    (ye0_NoText : PySem.W.findIn K (.ref C_NoText) "__getattribute__" = some (some (.builtin "BaseException.__getattribute__")))
    (ye1_NoText : PySem.W.findIn K (.ref C_NoText) "__getattr__" = some none)
    (ye2_NoText : PySem.W.findIn K (.ref C_NoText) "__class__" = some (some (.builtin "object.__class__")))
    (ye5_NoText : PySem.W.mroIn K C_NoText (.type "object") = some true)
    (s_NoText_BadOrder : PySem.W.subIn K (.ref C_NoText) (.ref C_BadOrder) = some false)
    (s_NoText_BadWeb : PySem.W.subIn K (.ref C_NoText) (.ref C_BadWeb) = some false)
    (s_NoText_Broken : PySem.W.subIn K (.ref C_NoText) (.ref C_Broken) = some false)
    (s_NoText_Busy : PySem.W.subIn K (.ref C_NoText) (.ref C_Busy) = some false)
    (s_NoText_Full : PySem.W.subIn K (.ref C_NoText) (.ref C_Full) = some false)
    (s_NoText_Held : PySem.W.subIn K (.ref C_NoText) (.ref C_Held) = some false)
    (s_NoText_Last : PySem.W.subIn K (.ref C_NoText) (.ref C_Last) = some false)
    (s_NoText_Long : PySem.W.subIn K (.ref C_NoText) (.ref C_Long) = some false)
    (s_NoText_LookupError : PySem.W.subIn K (.ref C_NoText) (.type "LookupError") = some false)
    (s_NoText_NoDeeds : PySem.W.subIn K (.ref C_NoText) (.ref C_NoDeeds) = some false)
    (s_NoText_NoDoor : PySem.W.subIn K (.ref C_NoText) (.ref C_NoDoor) = some false)
    (s_NoText_NoEnd : PySem.W.subIn K (.ref C_NoText) (.ref C_NoEnd) = some false)
    (s_NoText_NoHouse : PySem.W.subIn K (.ref C_NoText) (.ref C_NoHouse) = some false)
    (s_NoText_NoMoment : PySem.W.subIn K (.ref C_NoText) (.ref C_NoMoment) = some false)
    (s_NoText_NoRoad : PySem.W.subIn K (.ref C_NoText) (.ref C_NoRoad) = some false)
    (s_NoText_NoRoads : PySem.W.subIn K (.ref C_NoText) (.ref C_NoRoads) = some false)
    (s_NoText_NoRoom : PySem.W.subIn K (.ref C_NoText) (.ref C_NoRoom) = some false)
    (s_NoText_NoStream : PySem.W.subIn K (.ref C_NoText) (.ref C_NoStream) = some false)
    (s_NoText_NoText : PySem.W.subIn K (.ref C_NoText) (.ref C_NoText) = some true)
    (s_NoText_NothingBack : PySem.W.subIn K (.ref C_NoText) (.ref C_NothingBack) = some false)
    (s_NoText_TooGreat : PySem.W.subIn K (.ref C_NoText) (.ref C_TooGreat) = some false)
    (s_NoText_TooMany : PySem.W.subIn K (.ref C_NoText) (.ref C_TooMany) = some false)
    (s_NoText_ValueError : PySem.W.subIn K (.ref C_NoText) (.type "ValueError") = some true)
    (s_NoText_WebError : PySem.W.subIn K (.ref C_NoText) (.ref C_WebError) = some true)
    (no_NoText_line : PySem.W.findIn K (.ref C_NoText) "line" = some none)
    (yk_NoText : PySem.W.keepIn K (.ref C_NoText) = true)
    (vl_NoText : K.lookup C_NoText = some o_NoText)
    (vo_NoText : oexO C_NoText o_NoText = true)
    (vs_NoText : PySem.W.findIn K (.ref C_NoText) "__setattr__" = some (some (.builtin "object.__setattr__")))
    (vi_NoText : PySem.W.findIn K (.ref C_NoText) "__init__" = some (some (.ref I_NoText)))
    (vt_NoText : PySem.W.typeIn K (.ref I_NoText) = some (.type "function"))
    (vf_NoText : K.lookup I_NoText = some ⟨ocI_NoText, odI_NoText, .func (PySem.W.fnOf "__init__" "NoText.__init__" (defArgs s_initNoText) (defBody s_initNoText) (defScope s_initNoText) .none kVI_NoText dcI_NoText pmI_NoText anI_NoText cdI_NoText ctI_NoText), slI_NoText⟩)
    (vc_NoText : PySem.W.codeIn K cdI_NoText "NoText.__init__" = true)
    (yb_NoDoor : PySem.W.subIn K (.ref C_NoDoor) (.type "BaseException") = some true)
    (ye0_NoDoor : PySem.W.findIn K (.ref C_NoDoor) "__getattribute__" = some (some (.builtin "BaseException.__getattribute__")))
    (ye1_NoDoor : PySem.W.findIn K (.ref C_NoDoor) "__getattr__" = some none)
    (ye2_NoDoor : PySem.W.findIn K (.ref C_NoDoor) "__class__" = some (some (.builtin "object.__class__")))
    (ye5_NoDoor : PySem.W.mroIn K C_NoDoor (.type "object") = some true)
    (s_NoDoor_BadOrder : PySem.W.subIn K (.ref C_NoDoor) (.ref C_BadOrder) = some false)
    (s_NoDoor_BadWeb : PySem.W.subIn K (.ref C_NoDoor) (.ref C_BadWeb) = some false)
    (s_NoDoor_Broken : PySem.W.subIn K (.ref C_NoDoor) (.ref C_Broken) = some false)
    (s_NoDoor_Busy : PySem.W.subIn K (.ref C_NoDoor) (.ref C_Busy) = some false)
    (s_NoDoor_Full : PySem.W.subIn K (.ref C_NoDoor) (.ref C_Full) = some false)
    (s_NoDoor_Held : PySem.W.subIn K (.ref C_NoDoor) (.ref C_Held) = some false)
    (s_NoDoor_Last : PySem.W.subIn K (.ref C_NoDoor) (.ref C_Last) = some false)
    (s_NoDoor_Long : PySem.W.subIn K (.ref C_NoDoor) (.ref C_Long) = some false)
    (s_NoDoor_LookupError : PySem.W.subIn K (.ref C_NoDoor) (.type "LookupError") = some true)
    (s_NoDoor_NoDeeds : PySem.W.subIn K (.ref C_NoDoor) (.ref C_NoDeeds) = some false)
    (s_NoDoor_NoDoor : PySem.W.subIn K (.ref C_NoDoor) (.ref C_NoDoor) = some true)
    (s_NoDoor_NoEnd : PySem.W.subIn K (.ref C_NoDoor) (.ref C_NoEnd) = some false)
    (s_NoDoor_NoHouse : PySem.W.subIn K (.ref C_NoDoor) (.ref C_NoHouse) = some false)
    (s_NoDoor_NoMoment : PySem.W.subIn K (.ref C_NoDoor) (.ref C_NoMoment) = some false)
    (s_NoDoor_NoRoad : PySem.W.subIn K (.ref C_NoDoor) (.ref C_NoRoad) = some false)
    (s_NoDoor_NoRoads : PySem.W.subIn K (.ref C_NoDoor) (.ref C_NoRoads) = some false)
    (s_NoDoor_NoRoom : PySem.W.subIn K (.ref C_NoDoor) (.ref C_NoRoom) = some false)
    (s_NoDoor_NoStream : PySem.W.subIn K (.ref C_NoDoor) (.ref C_NoStream) = some false)
    (s_NoDoor_NoText : PySem.W.subIn K (.ref C_NoDoor) (.ref C_NoText) = some false)
    (s_NoDoor_NothingBack : PySem.W.subIn K (.ref C_NoDoor) (.ref C_NothingBack) = some false)
    (s_NoDoor_TooGreat : PySem.W.subIn K (.ref C_NoDoor) (.ref C_TooGreat) = some false)
    (s_NoDoor_TooMany : PySem.W.subIn K (.ref C_NoDoor) (.ref C_TooMany) = some false)
    (s_NoDoor_ValueError : PySem.W.subIn K (.ref C_NoDoor) (.type "ValueError") = some false)
    (s_NoDoor_WebError : PySem.W.subIn K (.ref C_NoDoor) (.ref C_WebError) = some false)
    (no_NoDoor_road : PySem.W.findIn K (.ref C_NoDoor) "road" = some none)
    (yk_NoDoor : PySem.W.keepIn K (.ref C_NoDoor) = true)
    (vl_NoDoor : K.lookup C_NoDoor = some o_NoDoor)
    (vo_NoDoor : oexL C_NoDoor o_NoDoor = true)
    (vs_NoDoor : PySem.W.findIn K (.ref C_NoDoor) "__setattr__" = some (some (.builtin "object.__setattr__")))
    (vi_NoDoor : PySem.W.findIn K (.ref C_NoDoor) "__init__" = some (some (.ref I_NoDoor)))
    (vt_NoDoor : PySem.W.typeIn K (.ref I_NoDoor) = some (.type "function"))
    (vf_NoDoor : K.lookup I_NoDoor = some ⟨ocI_NoDoor, odI_NoDoor, .func (PySem.W.fnOf "__init__" "NoDoor.__init__" (defArgs s_initNoDoor) (defBody s_initNoDoor) (defScope s_initNoDoor) .none kVI_NoDoor dcI_NoDoor pmI_NoDoor anI_NoDoor cdI_NoDoor ctI_NoDoor), slI_NoDoor⟩)
    (vc_NoDoor : PySem.W.codeIn K cdI_NoDoor "NoDoor.__init__" = true)
    (yb_NoRoad : PySem.W.subIn K (.ref C_NoRoad) (.type "BaseException") = some true)
    (ye0_NoRoad : PySem.W.findIn K (.ref C_NoRoad) "__getattribute__" = some (some (.builtin "BaseException.__getattribute__")))
    (ye1_NoRoad : PySem.W.findIn K (.ref C_NoRoad) "__getattr__" = some none)
    (ye2_NoRoad : PySem.W.findIn K (.ref C_NoRoad) "__class__" = some (some (.builtin "object.__class__")))
    (ye5_NoRoad : PySem.W.mroIn K C_NoRoad (.type "object") = some true)
    (s_NoRoad_BadOrder : PySem.W.subIn K (.ref C_NoRoad) (.ref C_BadOrder) = some false)
    (s_NoRoad_BadWeb : PySem.W.subIn K (.ref C_NoRoad) (.ref C_BadWeb) = some false)
    (s_NoRoad_Broken : PySem.W.subIn K (.ref C_NoRoad) (.ref C_Broken) = some false)
    (s_NoRoad_Busy : PySem.W.subIn K (.ref C_NoRoad) (.ref C_Busy) = some false)
    (s_NoRoad_Full : PySem.W.subIn K (.ref C_NoRoad) (.ref C_Full) = some false)
    (s_NoRoad_Held : PySem.W.subIn K (.ref C_NoRoad) (.ref C_Held) = some false)
    (s_NoRoad_Last : PySem.W.subIn K (.ref C_NoRoad) (.ref C_Last) = some false)
    (s_NoRoad_Long : PySem.W.subIn K (.ref C_NoRoad) (.ref C_Long) = some false)
    (s_NoRoad_LookupError : PySem.W.subIn K (.ref C_NoRoad) (.type "LookupError") = some true)
    (s_NoRoad_NoDeeds : PySem.W.subIn K (.ref C_NoRoad) (.ref C_NoDeeds) = some false)
    (s_NoRoad_NoDoor : PySem.W.subIn K (.ref C_NoRoad) (.ref C_NoDoor) = some false)
    (s_NoRoad_NoEnd : PySem.W.subIn K (.ref C_NoRoad) (.ref C_NoEnd) = some false)
    (s_NoRoad_NoHouse : PySem.W.subIn K (.ref C_NoRoad) (.ref C_NoHouse) = some false)
    (s_NoRoad_NoMoment : PySem.W.subIn K (.ref C_NoRoad) (.ref C_NoMoment) = some false)
    (s_NoRoad_NoRoad : PySem.W.subIn K (.ref C_NoRoad) (.ref C_NoRoad) = some true)
    (s_NoRoad_NoRoads : PySem.W.subIn K (.ref C_NoRoad) (.ref C_NoRoads) = some false)
    (s_NoRoad_NoRoom : PySem.W.subIn K (.ref C_NoRoad) (.ref C_NoRoom) = some false)
    (s_NoRoad_NoStream : PySem.W.subIn K (.ref C_NoRoad) (.ref C_NoStream) = some false)
    (s_NoRoad_NoText : PySem.W.subIn K (.ref C_NoRoad) (.ref C_NoText) = some false)
    (s_NoRoad_NothingBack : PySem.W.subIn K (.ref C_NoRoad) (.ref C_NothingBack) = some false)
    (s_NoRoad_TooGreat : PySem.W.subIn K (.ref C_NoRoad) (.ref C_TooGreat) = some false)
    (s_NoRoad_TooMany : PySem.W.subIn K (.ref C_NoRoad) (.ref C_TooMany) = some false)
    (s_NoRoad_ValueError : PySem.W.subIn K (.ref C_NoRoad) (.type "ValueError") = some false)
    (s_NoRoad_WebError : PySem.W.subIn K (.ref C_NoRoad) (.ref C_WebError) = some false)
    (no_NoRoad_road : PySem.W.findIn K (.ref C_NoRoad) "road" = some none)
    (yk_NoRoad : PySem.W.keepIn K (.ref C_NoRoad) = true)
    (vl_NoRoad : K.lookup C_NoRoad = some o_NoRoad)
    (vo_NoRoad : oexL C_NoRoad o_NoRoad = true)
    (vs_NoRoad : PySem.W.findIn K (.ref C_NoRoad) "__setattr__" = some (some (.builtin "object.__setattr__")))
    (vi_NoRoad : PySem.W.findIn K (.ref C_NoRoad) "__init__" = some (some (.ref I_NoRoad)))
    (vt_NoRoad : PySem.W.typeIn K (.ref I_NoRoad) = some (.type "function"))
    (vf_NoRoad : K.lookup I_NoRoad = some ⟨ocI_NoRoad, odI_NoRoad, .func (PySem.W.fnOf "__init__" "NoRoad.__init__" (defArgs s_initNoRoad) (defBody s_initNoRoad) (defScope s_initNoRoad) .none kVI_NoRoad dcI_NoRoad pmI_NoRoad anI_NoRoad cdI_NoRoad ctI_NoRoad), slI_NoRoad⟩)
    (vc_NoRoad : PySem.W.codeIn K cdI_NoRoad "NoRoad.__init__" = true)
    (yb_NoHouse : PySem.W.subIn K (.ref C_NoHouse) (.type "BaseException") = some true)
    (ye0_NoHouse : PySem.W.findIn K (.ref C_NoHouse) "__getattribute__" = some (some (.builtin "BaseException.__getattribute__")))
    (ye1_NoHouse : PySem.W.findIn K (.ref C_NoHouse) "__getattr__" = some none)
    (ye2_NoHouse : PySem.W.findIn K (.ref C_NoHouse) "__class__" = some (some (.builtin "object.__class__")))
    (ye5_NoHouse : PySem.W.mroIn K C_NoHouse (.type "object") = some true)
    (s_NoHouse_BadOrder : PySem.W.subIn K (.ref C_NoHouse) (.ref C_BadOrder) = some false)
    (s_NoHouse_BadWeb : PySem.W.subIn K (.ref C_NoHouse) (.ref C_BadWeb) = some false)
    (s_NoHouse_Broken : PySem.W.subIn K (.ref C_NoHouse) (.ref C_Broken) = some false)
    (s_NoHouse_Busy : PySem.W.subIn K (.ref C_NoHouse) (.ref C_Busy) = some false)
    (s_NoHouse_Full : PySem.W.subIn K (.ref C_NoHouse) (.ref C_Full) = some false)
    (s_NoHouse_Held : PySem.W.subIn K (.ref C_NoHouse) (.ref C_Held) = some false)
    (s_NoHouse_Last : PySem.W.subIn K (.ref C_NoHouse) (.ref C_Last) = some false)
    (s_NoHouse_Long : PySem.W.subIn K (.ref C_NoHouse) (.ref C_Long) = some false)
    (s_NoHouse_LookupError : PySem.W.subIn K (.ref C_NoHouse) (.type "LookupError") = some true)
    (s_NoHouse_NoDeeds : PySem.W.subIn K (.ref C_NoHouse) (.ref C_NoDeeds) = some false)
    (s_NoHouse_NoDoor : PySem.W.subIn K (.ref C_NoHouse) (.ref C_NoDoor) = some false)
    (s_NoHouse_NoEnd : PySem.W.subIn K (.ref C_NoHouse) (.ref C_NoEnd) = some false)
    (s_NoHouse_NoHouse : PySem.W.subIn K (.ref C_NoHouse) (.ref C_NoHouse) = some true)
    (s_NoHouse_NoMoment : PySem.W.subIn K (.ref C_NoHouse) (.ref C_NoMoment) = some false)
    (s_NoHouse_NoRoad : PySem.W.subIn K (.ref C_NoHouse) (.ref C_NoRoad) = some false)
    (s_NoHouse_NoRoads : PySem.W.subIn K (.ref C_NoHouse) (.ref C_NoRoads) = some false)
    (s_NoHouse_NoRoom : PySem.W.subIn K (.ref C_NoHouse) (.ref C_NoRoom) = some false)
    (s_NoHouse_NoStream : PySem.W.subIn K (.ref C_NoHouse) (.ref C_NoStream) = some false)
    (s_NoHouse_NoText : PySem.W.subIn K (.ref C_NoHouse) (.ref C_NoText) = some false)
    (s_NoHouse_NothingBack : PySem.W.subIn K (.ref C_NoHouse) (.ref C_NothingBack) = some false)
    (s_NoHouse_TooGreat : PySem.W.subIn K (.ref C_NoHouse) (.ref C_TooGreat) = some false)
    (s_NoHouse_TooMany : PySem.W.subIn K (.ref C_NoHouse) (.ref C_TooMany) = some false)
    (s_NoHouse_ValueError : PySem.W.subIn K (.ref C_NoHouse) (.type "ValueError") = some false)
    (s_NoHouse_WebError : PySem.W.subIn K (.ref C_NoHouse) (.ref C_WebError) = some false)
    (no_NoHouse_house : PySem.W.findIn K (.ref C_NoHouse) "house" = some none)
    (yk_NoHouse : PySem.W.keepIn K (.ref C_NoHouse) = true)
    (vl_NoHouse : K.lookup C_NoHouse = some o_NoHouse)
    (vo_NoHouse : oexL C_NoHouse o_NoHouse = true)
    (vs_NoHouse : PySem.W.findIn K (.ref C_NoHouse) "__setattr__" = some (some (.builtin "object.__setattr__")))
    (vi_NoHouse : PySem.W.findIn K (.ref C_NoHouse) "__init__" = some (some (.ref I_NoHouse)))
    (vt_NoHouse : PySem.W.typeIn K (.ref I_NoHouse) = some (.type "function"))
    (vf_NoHouse : K.lookup I_NoHouse = some ⟨ocI_NoHouse, odI_NoHouse, .func (PySem.W.fnOf "__init__" "NoHouse.__init__" (defArgs s_initNoHouse) (defBody s_initNoHouse) (defScope s_initNoHouse) .none kVI_NoHouse dcI_NoHouse pmI_NoHouse anI_NoHouse cdI_NoHouse ctI_NoHouse), slI_NoHouse⟩)
    (vc_NoHouse : PySem.W.codeIn K cdI_NoHouse "NoHouse.__init__" = true)
    (yb_NoEnd : PySem.W.subIn K (.ref C_NoEnd) (.type "BaseException") = some true)
    (ye0_NoEnd : PySem.W.findIn K (.ref C_NoEnd) "__getattribute__" = some (some (.builtin "BaseException.__getattribute__")))
    (ye1_NoEnd : PySem.W.findIn K (.ref C_NoEnd) "__getattr__" = some none)
    (ye2_NoEnd : PySem.W.findIn K (.ref C_NoEnd) "__class__" = some (some (.builtin "object.__class__")))
    (ye5_NoEnd : PySem.W.mroIn K C_NoEnd (.type "object") = some true)
    (s_NoEnd_BadOrder : PySem.W.subIn K (.ref C_NoEnd) (.ref C_BadOrder) = some false)
    (s_NoEnd_BadWeb : PySem.W.subIn K (.ref C_NoEnd) (.ref C_BadWeb) = some false)
    (s_NoEnd_Broken : PySem.W.subIn K (.ref C_NoEnd) (.ref C_Broken) = some false)
    (s_NoEnd_Busy : PySem.W.subIn K (.ref C_NoEnd) (.ref C_Busy) = some false)
    (s_NoEnd_Full : PySem.W.subIn K (.ref C_NoEnd) (.ref C_Full) = some false)
    (s_NoEnd_Held : PySem.W.subIn K (.ref C_NoEnd) (.ref C_Held) = some false)
    (s_NoEnd_Last : PySem.W.subIn K (.ref C_NoEnd) (.ref C_Last) = some false)
    (s_NoEnd_Long : PySem.W.subIn K (.ref C_NoEnd) (.ref C_Long) = some false)
    (s_NoEnd_LookupError : PySem.W.subIn K (.ref C_NoEnd) (.type "LookupError") = some true)
    (s_NoEnd_NoDeeds : PySem.W.subIn K (.ref C_NoEnd) (.ref C_NoDeeds) = some false)
    (s_NoEnd_NoDoor : PySem.W.subIn K (.ref C_NoEnd) (.ref C_NoDoor) = some false)
    (s_NoEnd_NoEnd : PySem.W.subIn K (.ref C_NoEnd) (.ref C_NoEnd) = some true)
    (s_NoEnd_NoHouse : PySem.W.subIn K (.ref C_NoEnd) (.ref C_NoHouse) = some false)
    (s_NoEnd_NoMoment : PySem.W.subIn K (.ref C_NoEnd) (.ref C_NoMoment) = some false)
    (s_NoEnd_NoRoad : PySem.W.subIn K (.ref C_NoEnd) (.ref C_NoRoad) = some false)
    (s_NoEnd_NoRoads : PySem.W.subIn K (.ref C_NoEnd) (.ref C_NoRoads) = some false)
    (s_NoEnd_NoRoom : PySem.W.subIn K (.ref C_NoEnd) (.ref C_NoRoom) = some false)
    (s_NoEnd_NoStream : PySem.W.subIn K (.ref C_NoEnd) (.ref C_NoStream) = some false)
    (s_NoEnd_NoText : PySem.W.subIn K (.ref C_NoEnd) (.ref C_NoText) = some false)
    (s_NoEnd_NothingBack : PySem.W.subIn K (.ref C_NoEnd) (.ref C_NothingBack) = some false)
    (s_NoEnd_TooGreat : PySem.W.subIn K (.ref C_NoEnd) (.ref C_TooGreat) = some false)
    (s_NoEnd_TooMany : PySem.W.subIn K (.ref C_NoEnd) (.ref C_TooMany) = some false)
    (s_NoEnd_ValueError : PySem.W.subIn K (.ref C_NoEnd) (.type "ValueError") = some false)
    (s_NoEnd_WebError : PySem.W.subIn K (.ref C_NoEnd) (.ref C_WebError) = some false)
    (no_NoEnd_end : PySem.W.findIn K (.ref C_NoEnd) "end" = some none)
    (yk_NoEnd : PySem.W.keepIn K (.ref C_NoEnd) = true)
    (vl_NoEnd : K.lookup C_NoEnd = some o_NoEnd)
    (vo_NoEnd : oexL C_NoEnd o_NoEnd = true)
    (vs_NoEnd : PySem.W.findIn K (.ref C_NoEnd) "__setattr__" = some (some (.builtin "object.__setattr__")))
    (vi_NoEnd : PySem.W.findIn K (.ref C_NoEnd) "__init__" = some (some (.ref I_NoEnd)))
    (vt_NoEnd : PySem.W.typeIn K (.ref I_NoEnd) = some (.type "function"))
    (vf_NoEnd : K.lookup I_NoEnd = some ⟨ocI_NoEnd, odI_NoEnd, .func (PySem.W.fnOf "__init__" "NoEnd.__init__" (defArgs s_initNoEnd) (defBody s_initNoEnd) (defScope s_initNoEnd) .none kVI_NoEnd dcI_NoEnd pmI_NoEnd anI_NoEnd cdI_NoEnd ctI_NoEnd), slI_NoEnd⟩)
    (vc_NoEnd : PySem.W.codeIn K cdI_NoEnd "NoEnd.__init__" = true)
    (yb_NoMoment : PySem.W.subIn K (.ref C_NoMoment) (.type "BaseException") = some true)
    (ye0_NoMoment : PySem.W.findIn K (.ref C_NoMoment) "__getattribute__" = some (some (.builtin "BaseException.__getattribute__")))
    (ye1_NoMoment : PySem.W.findIn K (.ref C_NoMoment) "__getattr__" = some none)
    (ye2_NoMoment : PySem.W.findIn K (.ref C_NoMoment) "__class__" = some (some (.builtin "object.__class__")))
    (ye5_NoMoment : PySem.W.mroIn K C_NoMoment (.type "object") = some true)
    (s_NoMoment_BadOrder : PySem.W.subIn K (.ref C_NoMoment) (.ref C_BadOrder) = some false)
    (s_NoMoment_BadWeb : PySem.W.subIn K (.ref C_NoMoment) (.ref C_BadWeb) = some false)
    (s_NoMoment_Broken : PySem.W.subIn K (.ref C_NoMoment) (.ref C_Broken) = some false)
    (s_NoMoment_Busy : PySem.W.subIn K (.ref C_NoMoment) (.ref C_Busy) = some false)
    (s_NoMoment_Full : PySem.W.subIn K (.ref C_NoMoment) (.ref C_Full) = some false)
    (s_NoMoment_Held : PySem.W.subIn K (.ref C_NoMoment) (.ref C_Held) = some false)
    (s_NoMoment_Last : PySem.W.subIn K (.ref C_NoMoment) (.ref C_Last) = some false)
    (s_NoMoment_Long : PySem.W.subIn K (.ref C_NoMoment) (.ref C_Long) = some false)
    (s_NoMoment_LookupError : PySem.W.subIn K (.ref C_NoMoment) (.type "LookupError") = some true)
    (s_NoMoment_NoDeeds : PySem.W.subIn K (.ref C_NoMoment) (.ref C_NoDeeds) = some false)
    (s_NoMoment_NoDoor : PySem.W.subIn K (.ref C_NoMoment) (.ref C_NoDoor) = some false)
    (s_NoMoment_NoEnd : PySem.W.subIn K (.ref C_NoMoment) (.ref C_NoEnd) = some false)
    (s_NoMoment_NoHouse : PySem.W.subIn K (.ref C_NoMoment) (.ref C_NoHouse) = some false)
    (s_NoMoment_NoMoment : PySem.W.subIn K (.ref C_NoMoment) (.ref C_NoMoment) = some true)
    (s_NoMoment_NoRoad : PySem.W.subIn K (.ref C_NoMoment) (.ref C_NoRoad) = some false)
    (s_NoMoment_NoRoads : PySem.W.subIn K (.ref C_NoMoment) (.ref C_NoRoads) = some false)
    (s_NoMoment_NoRoom : PySem.W.subIn K (.ref C_NoMoment) (.ref C_NoRoom) = some false)
    (s_NoMoment_NoStream : PySem.W.subIn K (.ref C_NoMoment) (.ref C_NoStream) = some false)
    (s_NoMoment_NoText : PySem.W.subIn K (.ref C_NoMoment) (.ref C_NoText) = some false)
    (s_NoMoment_NothingBack : PySem.W.subIn K (.ref C_NoMoment) (.ref C_NothingBack) = some false)
    (s_NoMoment_TooGreat : PySem.W.subIn K (.ref C_NoMoment) (.ref C_TooGreat) = some false)
    (s_NoMoment_TooMany : PySem.W.subIn K (.ref C_NoMoment) (.ref C_TooMany) = some false)
    (s_NoMoment_ValueError : PySem.W.subIn K (.ref C_NoMoment) (.type "ValueError") = some false)
    (s_NoMoment_WebError : PySem.W.subIn K (.ref C_NoMoment) (.ref C_WebError) = some false)
    (no_NoMoment_number : PySem.W.findIn K (.ref C_NoMoment) "number" = some none)
    (yk_NoMoment : PySem.W.keepIn K (.ref C_NoMoment) = true)
    (vl_NoMoment : K.lookup C_NoMoment = some o_NoMoment)
    (vo_NoMoment : oexL C_NoMoment o_NoMoment = true)
    (vs_NoMoment : PySem.W.findIn K (.ref C_NoMoment) "__setattr__" = some (some (.builtin "object.__setattr__")))
    (vi_NoMoment : PySem.W.findIn K (.ref C_NoMoment) "__init__" = some (some (.ref I_NoMoment)))
    (vt_NoMoment : PySem.W.typeIn K (.ref I_NoMoment) = some (.type "function"))
    (vf_NoMoment : K.lookup I_NoMoment = some ⟨ocI_NoMoment, odI_NoMoment, .func (PySem.W.fnOf "__init__" "NoMoment.__init__" (defArgs s_initNoMoment) (defBody s_initNoMoment) (defScope s_initNoMoment) .none kVI_NoMoment dcI_NoMoment pmI_NoMoment anI_NoMoment cdI_NoMoment ctI_NoMoment), slI_NoMoment⟩)
    (vc_NoMoment : PySem.W.codeIn K cdI_NoMoment "NoMoment.__init__" = true) :
    ∃ (kk : KK) (fd : FuncData), kk.fr = K ∧ (∀ (s : Shared) (v : Value), BindsTo s fd ⟨[v], []⟩ [("_law_script", v)]) ∧ ∀ base : Heap, K.In base → base.Ns mainGlobals mg → FnG l.prog w K mg base 4 fa fd ["_law_script"] (@spF kk F_law_z197) := by
  have e := hfa.symm.trans (PySem.W.mg_of X G a5)
  cases e
  letI kk : KK := ⟨K, fun n => ([(1, C_BadWeb), (2, C_TooGreat), (3, C_Full), (4, C_NoRoads), (5, C_BadOrder), (6, C_TooMany), (7, C_Long), (8, C_Busy), (9, C_NothingBack), (10, C_NoDeeds), (11, C_Broken), (12, C_Last), (13, C_Held), (14, C_NoRoom), (15, C_NoStream), (16, C_NoText), (17, C_NoDoor), (18, C_NoRoad), (19, C_NoHouse), (20, C_NoEnd), (21, C_NoMoment)] : List (Nat × Addr)).lookup n, fun n => ([] : List (Nat × Addr)).lookup n, 0⟩
  have B : Bm mg := ⟨PySem.W.mg_none_of X G z_LookupError, PySem.W.mg_none_of X G z_ValueError, PySem.W.mg_none_of X G z_abs, PySem.W.mg_none_of X G z_enumerate, PySem.W.mg_none_of X G z_isinstance, PySem.W.mg_none_of X G z_len, PySem.W.mg_none_of X G z_range, PySem.W.mg_none_of X G z_repr⟩
  have at_ : ∀ {Q : Nat → Addr → Prop}, AllL Q [(1, C_BadWeb), (2, C_TooGreat), (3, C_Full), (4, C_NoRoads), (5, C_BadOrder), (6, C_TooMany), (7, C_Long), (8, C_Busy), (9, C_NothingBack), (10, C_NoDeeds), (11, C_Broken), (12, C_Last), (13, C_Held), (14, C_NoRoom), (15, C_NoStream), (16, C_NoText), (17, C_NoDoor), (18, C_NoRoad), (19, C_NoHouse), (20, C_NoEnd), (21, C_NoMoment)] → ∀ n C, kk.cl n = some C → Q n C := fun h n C e => h.at n C e
  have Z : HF mg w (fun n => (([(0, C_WebError), (1, C_BadWeb), (2, C_TooGreat), (3, C_Full), (4, C_NoRoads), (5, C_BadOrder), (6, C_TooMany), (7, C_Long), (8, C_Busy), (9, C_NothingBack), (10, C_NoDeeds), (11, C_Broken), (12, C_Last), (13, C_Held), (14, C_NoRoom), (15, C_NoStream), (16, C_NoText), (17, C_NoDoor), (18, C_NoRoad), (19, C_NoHouse), (20, C_NoEnd), (21, C_NoMoment)] : List (Nat × Addr)).lookup n).getD 0) 0 := ⟨AllN.at ⟨rfl, rfl, rfl, rfl, rfl, rfl, rfl, rfl, rfl, rfl, rfl, rfl, rfl, rfl, rfl, rfl, rfl, rfl, rfl, rfl, rfl, trivial⟩,
    at_ ⟨⟨ye0_BadWeb, ye1_BadWeb, yb_BadWeb, yh_BadWeb, ye2_BadWeb, ye3, ye4, ye5_BadWeb⟩, ⟨ye0_TooGreat, ye1_TooGreat, yb_TooGreat, yh_TooGreat, ye2_TooGreat, ye3, ye4, ye5_TooGreat⟩, ⟨ye0_Full, ye1_Full, yb_Full, yh_Full, ye2_Full, ye3, ye4, ye5_Full⟩, ⟨ye0_NoRoads, ye1_NoRoads, yb_NoRoads, yh_NoRoads, ye2_NoRoads, ye3, ye4, ye5_NoRoads⟩, ⟨ye0_BadOrder, ye1_BadOrder, yb_BadOrder, yh_BadOrder, ye2_BadOrder, ye3, ye4, ye5_BadOrder⟩, ⟨ye0_TooMany, ye1_TooMany, yb_TooMany, yh_TooMany, ye2_TooMany, ye3, ye4, ye5_TooMany⟩, ⟨ye0_Long, ye1_Long, yb_Long, yh_Long, ye2_Long, ye3, ye4, ye5_Long⟩, ⟨ye0_Busy, ye1_Busy, yb_Busy, yh_Busy, ye2_Busy, ye3, ye4, ye5_Busy⟩, ⟨ye0_NothingBack, ye1_NothingBack, yb_NothingBack, yh_NothingBack, ye2_NothingBack, ye3, ye4, ye5_NothingBack⟩, ⟨ye0_NoDeeds, ye1_NoDeeds, yb_NoDeeds, yh_NoDeeds, ye2_NoDeeds, ye3, ye4, ye5_NoDeeds⟩, ⟨ye0_Broken, ye1_Broken, yb_Broken, yh_Broken, ye2_Broken, ye3, ye4, ye5_Broken⟩, ⟨ye0_Last, ye1_Last, yb_Last, yh_Last, ye2_Last, ye3, ye4, ye5_Last⟩, ⟨ye0_Held, ye1_Held, yb_Held, yh_Held, ye2_Held, ye3, ye4, ye5_Held⟩, ⟨ye0_NoRoom, ye1_NoRoom, yb_NoRoom, yh_NoRoom, ye2_NoRoom, ye3, ye4, ye5_NoRoom⟩, ⟨ye0_NoStream, ye1_NoStream, yb_NoStream, yh_NoStream, ye2_NoStream, ye3, ye4, ye5_NoStream⟩, ⟨ye0_NoText, ye1_NoText, yb_NoText, yh_NoText, ye2_NoText, ye3, ye4, ye5_NoText⟩, ⟨ye0_NoDoor, ye1_NoDoor, yb_NoDoor, yh_NoDoor, ye2_NoDoor, ye3, ye4, ye5_NoDoor⟩, ⟨ye0_NoRoad, ye1_NoRoad, yb_NoRoad, yh_NoRoad, ye2_NoRoad, ye3, ye4, ye5_NoRoad⟩, ⟨ye0_NoHouse, ye1_NoHouse, yb_NoHouse, yh_NoHouse, ye2_NoHouse, ye3, ye4, ye5_NoHouse⟩, ⟨ye0_NoEnd, ye1_NoEnd, yb_NoEnd, yh_NoEnd, ye2_NoEnd, ye3, ye4, ye5_NoEnd⟩, ⟨ye0_NoMoment, ye1_NoMoment, yb_NoMoment, yh_NoMoment, ye2_NoMoment, ye3, ye4, ye5_NoMoment⟩, trivial⟩,
    PySem.W.mg_of X G y_BadOrder,
    PySem.W.mg_of X G y_BadWeb,
    PySem.W.mg_of X G y_Broken,
    PySem.W.mg_of X G y_Busy,
    PySem.W.mg_of X G y_Full,
    PySem.W.mg_of X G y_Held,
    PySem.W.mg_of X G y_Last,
    PySem.W.mg_of X G y_Long,
    PySem.W.mg_of X G y_NoDeeds,
    PySem.W.mg_of X G y_NoDoor,
    PySem.W.mg_of X G y_NoEnd,
    PySem.W.mg_of X G y_NoHouse,
    PySem.W.mg_of X G y_NoMoment,
    PySem.W.mg_of X G y_NoRoad,
    PySem.W.mg_of X G y_NoRoads,
    PySem.W.mg_of X G y_NoRoom,
    PySem.W.mg_of X G y_NoStream,
    PySem.W.mg_of X G y_NoText,
    PySem.W.mg_of X G y_NothingBack,
    PySem.W.mg_of X G y_TooGreat,
    PySem.W.mg_of X G y_TooMany,
    PySem.W.mg_of X G y_WebError,
    (fun n C b h => (at_ ⟨(itb rfl (kit_no yh_BadOrder yt_BadOrder s_BadWeb_BadOrder s_BadWeb_BadWeb)), (itb rfl (kit_no yh_BadOrder yt_BadOrder s_TooGreat_BadOrder s_TooGreat_TooGreat)), (itb rfl (kit_no yh_BadOrder yt_BadOrder s_Full_BadOrder s_Full_Full)), (itb rfl (kit_no yh_BadOrder yt_BadOrder s_NoRoads_BadOrder s_NoRoads_NoRoads)), (itb rfl (kit_yes yh_BadOrder yt_BadOrder s_BadOrder_BadOrder)), (itb rfl (kit_no yh_BadOrder yt_BadOrder s_TooMany_BadOrder s_TooMany_TooMany)), (itb rfl (kit_no yh_BadOrder yt_BadOrder s_Long_BadOrder s_Long_Long)), (itb rfl (kit_no yh_BadOrder yt_BadOrder s_Busy_BadOrder s_Busy_Busy)), (itb rfl (kit_no yh_BadOrder yt_BadOrder s_NothingBack_BadOrder s_NothingBack_NothingBack)), (itb rfl (kit_no yh_BadOrder yt_BadOrder s_NoDeeds_BadOrder s_NoDeeds_NoDeeds)), (itb rfl (kit_no yh_BadOrder yt_BadOrder s_Broken_BadOrder s_Broken_Broken)), (itb rfl (kit_no yh_BadOrder yt_BadOrder s_Last_BadOrder s_Last_Last)), (itb rfl (kit_no yh_BadOrder yt_BadOrder s_Held_BadOrder s_Held_Held)), (itb rfl (kit_no yh_BadOrder yt_BadOrder s_NoRoom_BadOrder s_NoRoom_NoRoom)), (itb rfl (kit_no yh_BadOrder yt_BadOrder s_NoStream_BadOrder s_NoStream_NoStream)), (itb rfl (kit_no yh_BadOrder yt_BadOrder s_NoText_BadOrder s_NoText_NoText)), (itb rfl (kit_no yh_BadOrder yt_BadOrder s_NoDoor_BadOrder s_NoDoor_NoDoor)), (itb rfl (kit_no yh_BadOrder yt_BadOrder s_NoRoad_BadOrder s_NoRoad_NoRoad)), (itb rfl (kit_no yh_BadOrder yt_BadOrder s_NoHouse_BadOrder s_NoHouse_NoHouse)), (itb rfl (kit_no yh_BadOrder yt_BadOrder s_NoEnd_BadOrder s_NoEnd_NoEnd)), (itb rfl (kit_no yh_BadOrder yt_BadOrder s_NoMoment_BadOrder s_NoMoment_NoMoment)), trivial⟩ : ∀ n C, kk.cl n = some C → ∀ b, it_k09_BadOrder n = some b → PySem.W.kitOne K (.ref C) (.ref C_BadOrder) = some b) n C h b),
    (fun n C b h => (at_ ⟨(itb rfl (kit_yes yh_BadWeb yt_BadWeb s_BadWeb_BadWeb)), (itb rfl (kit_no yh_BadWeb yt_BadWeb s_TooGreat_BadWeb s_TooGreat_TooGreat)), (itb rfl (kit_no yh_BadWeb yt_BadWeb s_Full_BadWeb s_Full_Full)), (itb rfl (kit_no yh_BadWeb yt_BadWeb s_NoRoads_BadWeb s_NoRoads_NoRoads)), (itb rfl (kit_no yh_BadWeb yt_BadWeb s_BadOrder_BadWeb s_BadOrder_BadOrder)), (itb rfl (kit_no yh_BadWeb yt_BadWeb s_TooMany_BadWeb s_TooMany_TooMany)), (itb rfl (kit_no yh_BadWeb yt_BadWeb s_Long_BadWeb s_Long_Long)), (itb rfl (kit_no yh_BadWeb yt_BadWeb s_Busy_BadWeb s_Busy_Busy)), (itb rfl (kit_no yh_BadWeb yt_BadWeb s_NothingBack_BadWeb s_NothingBack_NothingBack)), (itb rfl (kit_no yh_BadWeb yt_BadWeb s_NoDeeds_BadWeb s_NoDeeds_NoDeeds)), (itb rfl (kit_no yh_BadWeb yt_BadWeb s_Broken_BadWeb s_Broken_Broken)), (itb rfl (kit_no yh_BadWeb yt_BadWeb s_Last_BadWeb s_Last_Last)), (itb rfl (kit_no yh_BadWeb yt_BadWeb s_Held_BadWeb s_Held_Held)), (itb rfl (kit_no yh_BadWeb yt_BadWeb s_NoRoom_BadWeb s_NoRoom_NoRoom)), (itb rfl (kit_no yh_BadWeb yt_BadWeb s_NoStream_BadWeb s_NoStream_NoStream)), (itb rfl (kit_no yh_BadWeb yt_BadWeb s_NoText_BadWeb s_NoText_NoText)), (itb rfl (kit_no yh_BadWeb yt_BadWeb s_NoDoor_BadWeb s_NoDoor_NoDoor)), (itb rfl (kit_no yh_BadWeb yt_BadWeb s_NoRoad_BadWeb s_NoRoad_NoRoad)), (itb rfl (kit_no yh_BadWeb yt_BadWeb s_NoHouse_BadWeb s_NoHouse_NoHouse)), (itb rfl (kit_no yh_BadWeb yt_BadWeb s_NoEnd_BadWeb s_NoEnd_NoEnd)), (itb rfl (kit_no yh_BadWeb yt_BadWeb s_NoMoment_BadWeb s_NoMoment_NoMoment)), trivial⟩ : ∀ n C, kk.cl n = some C → ∀ b, it_k09_BadWeb n = some b → PySem.W.kitOne K (.ref C) (.ref C_BadWeb) = some b) n C h b),
    (fun n C b h => (at_ ⟨(itb rfl (kit_no yh_Broken yt_Broken s_BadWeb_Broken s_BadWeb_BadWeb)), (itb rfl (kit_no yh_Broken yt_Broken s_TooGreat_Broken s_TooGreat_TooGreat)), (itb rfl (kit_no yh_Broken yt_Broken s_Full_Broken s_Full_Full)), (itb rfl (kit_no yh_Broken yt_Broken s_NoRoads_Broken s_NoRoads_NoRoads)), (itb rfl (kit_no yh_Broken yt_Broken s_BadOrder_Broken s_BadOrder_BadOrder)), (itb rfl (kit_no yh_Broken yt_Broken s_TooMany_Broken s_TooMany_TooMany)), (itb rfl (kit_no yh_Broken yt_Broken s_Long_Broken s_Long_Long)), (itb rfl (kit_no yh_Broken yt_Broken s_Busy_Broken s_Busy_Busy)), (itb rfl (kit_no yh_Broken yt_Broken s_NothingBack_Broken s_NothingBack_NothingBack)), (itb rfl (kit_no yh_Broken yt_Broken s_NoDeeds_Broken s_NoDeeds_NoDeeds)), (itb rfl (kit_yes yh_Broken yt_Broken s_Broken_Broken)), (itb rfl (kit_no yh_Broken yt_Broken s_Last_Broken s_Last_Last)), (itb rfl (kit_no yh_Broken yt_Broken s_Held_Broken s_Held_Held)), (itb rfl (kit_no yh_Broken yt_Broken s_NoRoom_Broken s_NoRoom_NoRoom)), (itb rfl (kit_no yh_Broken yt_Broken s_NoStream_Broken s_NoStream_NoStream)), (itb rfl (kit_no yh_Broken yt_Broken s_NoText_Broken s_NoText_NoText)), (itb rfl (kit_no yh_Broken yt_Broken s_NoDoor_Broken s_NoDoor_NoDoor)), (itb rfl (kit_no yh_Broken yt_Broken s_NoRoad_Broken s_NoRoad_NoRoad)), (itb rfl (kit_no yh_Broken yt_Broken s_NoHouse_Broken s_NoHouse_NoHouse)), (itb rfl (kit_no yh_Broken yt_Broken s_NoEnd_Broken s_NoEnd_NoEnd)), (itb rfl (kit_no yh_Broken yt_Broken s_NoMoment_Broken s_NoMoment_NoMoment)), trivial⟩ : ∀ n C, kk.cl n = some C → ∀ b, it_k09_Broken n = some b → PySem.W.kitOne K (.ref C) (.ref C_Broken) = some b) n C h b),
    (fun n C b h => (at_ ⟨(itb rfl (kit_no yh_Busy yt_Busy s_BadWeb_Busy s_BadWeb_BadWeb)), (itb rfl (kit_no yh_Busy yt_Busy s_TooGreat_Busy s_TooGreat_TooGreat)), (itb rfl (kit_no yh_Busy yt_Busy s_Full_Busy s_Full_Full)), (itb rfl (kit_no yh_Busy yt_Busy s_NoRoads_Busy s_NoRoads_NoRoads)), (itb rfl (kit_no yh_Busy yt_Busy s_BadOrder_Busy s_BadOrder_BadOrder)), (itb rfl (kit_no yh_Busy yt_Busy s_TooMany_Busy s_TooMany_TooMany)), (itb rfl (kit_no yh_Busy yt_Busy s_Long_Busy s_Long_Long)), (itb rfl (kit_yes yh_Busy yt_Busy s_Busy_Busy)), (itb rfl (kit_no yh_Busy yt_Busy s_NothingBack_Busy s_NothingBack_NothingBack)), (itb rfl (kit_no yh_Busy yt_Busy s_NoDeeds_Busy s_NoDeeds_NoDeeds)), (itb rfl (kit_no yh_Busy yt_Busy s_Broken_Busy s_Broken_Broken)), (itb rfl (kit_no yh_Busy yt_Busy s_Last_Busy s_Last_Last)), (itb rfl (kit_no yh_Busy yt_Busy s_Held_Busy s_Held_Held)), (itb rfl (kit_no yh_Busy yt_Busy s_NoRoom_Busy s_NoRoom_NoRoom)), (itb rfl (kit_no yh_Busy yt_Busy s_NoStream_Busy s_NoStream_NoStream)), (itb rfl (kit_no yh_Busy yt_Busy s_NoText_Busy s_NoText_NoText)), (itb rfl (kit_no yh_Busy yt_Busy s_NoDoor_Busy s_NoDoor_NoDoor)), (itb rfl (kit_no yh_Busy yt_Busy s_NoRoad_Busy s_NoRoad_NoRoad)), (itb rfl (kit_no yh_Busy yt_Busy s_NoHouse_Busy s_NoHouse_NoHouse)), (itb rfl (kit_no yh_Busy yt_Busy s_NoEnd_Busy s_NoEnd_NoEnd)), (itb rfl (kit_no yh_Busy yt_Busy s_NoMoment_Busy s_NoMoment_NoMoment)), trivial⟩ : ∀ n C, kk.cl n = some C → ∀ b, it_k09_Busy n = some b → PySem.W.kitOne K (.ref C) (.ref C_Busy) = some b) n C h b),
    (fun n C b h => (at_ ⟨(itb rfl (kit_no yh_Full yt_Full s_BadWeb_Full s_BadWeb_BadWeb)), (itb rfl (kit_no yh_Full yt_Full s_TooGreat_Full s_TooGreat_TooGreat)), (itb rfl (kit_yes yh_Full yt_Full s_Full_Full)), (itb rfl (kit_no yh_Full yt_Full s_NoRoads_Full s_NoRoads_NoRoads)), (itb rfl (kit_no yh_Full yt_Full s_BadOrder_Full s_BadOrder_BadOrder)), (itb rfl (kit_no yh_Full yt_Full s_TooMany_Full s_TooMany_TooMany)), (itb rfl (kit_no yh_Full yt_Full s_Long_Full s_Long_Long)), (itb rfl (kit_no yh_Full yt_Full s_Busy_Full s_Busy_Busy)), (itb rfl (kit_no yh_Full yt_Full s_NothingBack_Full s_NothingBack_NothingBack)), (itb rfl (kit_no yh_Full yt_Full s_NoDeeds_Full s_NoDeeds_NoDeeds)), (itb rfl (kit_no yh_Full yt_Full s_Broken_Full s_Broken_Broken)), (itb rfl (kit_no yh_Full yt_Full s_Last_Full s_Last_Last)), (itb rfl (kit_no yh_Full yt_Full s_Held_Full s_Held_Held)), (itb rfl (kit_no yh_Full yt_Full s_NoRoom_Full s_NoRoom_NoRoom)), (itb rfl (kit_no yh_Full yt_Full s_NoStream_Full s_NoStream_NoStream)), (itb rfl (kit_no yh_Full yt_Full s_NoText_Full s_NoText_NoText)), (itb rfl (kit_no yh_Full yt_Full s_NoDoor_Full s_NoDoor_NoDoor)), (itb rfl (kit_no yh_Full yt_Full s_NoRoad_Full s_NoRoad_NoRoad)), (itb rfl (kit_no yh_Full yt_Full s_NoHouse_Full s_NoHouse_NoHouse)), (itb rfl (kit_no yh_Full yt_Full s_NoEnd_Full s_NoEnd_NoEnd)), (itb rfl (kit_no yh_Full yt_Full s_NoMoment_Full s_NoMoment_NoMoment)), trivial⟩ : ∀ n C, kk.cl n = some C → ∀ b, it_k09_Full n = some b → PySem.W.kitOne K (.ref C) (.ref C_Full) = some b) n C h b),
    (fun n C b h => (at_ ⟨(itb rfl (kit_no yh_Held yt_Held s_BadWeb_Held s_BadWeb_BadWeb)), (itb rfl (kit_no yh_Held yt_Held s_TooGreat_Held s_TooGreat_TooGreat)), (itb rfl (kit_no yh_Held yt_Held s_Full_Held s_Full_Full)), (itb rfl (kit_no yh_Held yt_Held s_NoRoads_Held s_NoRoads_NoRoads)), (itb rfl (kit_no yh_Held yt_Held s_BadOrder_Held s_BadOrder_BadOrder)), (itb rfl (kit_no yh_Held yt_Held s_TooMany_Held s_TooMany_TooMany)), (itb rfl (kit_no yh_Held yt_Held s_Long_Held s_Long_Long)), (itb rfl (kit_no yh_Held yt_Held s_Busy_Held s_Busy_Busy)), (itb rfl (kit_no yh_Held yt_Held s_NothingBack_Held s_NothingBack_NothingBack)), (itb rfl (kit_no yh_Held yt_Held s_NoDeeds_Held s_NoDeeds_NoDeeds)), (itb rfl (kit_no yh_Held yt_Held s_Broken_Held s_Broken_Broken)), (itb rfl (kit_no yh_Held yt_Held s_Last_Held s_Last_Last)), (itb rfl (kit_yes yh_Held yt_Held s_Held_Held)), (itb rfl (kit_no yh_Held yt_Held s_NoRoom_Held s_NoRoom_NoRoom)), (itb rfl (kit_no yh_Held yt_Held s_NoStream_Held s_NoStream_NoStream)), (itb rfl (kit_no yh_Held yt_Held s_NoText_Held s_NoText_NoText)), (itb rfl (kit_no yh_Held yt_Held s_NoDoor_Held s_NoDoor_NoDoor)), (itb rfl (kit_no yh_Held yt_Held s_NoRoad_Held s_NoRoad_NoRoad)), (itb rfl (kit_no yh_Held yt_Held s_NoHouse_Held s_NoHouse_NoHouse)), (itb rfl (kit_no yh_Held yt_Held s_NoEnd_Held s_NoEnd_NoEnd)), (itb rfl (kit_no yh_Held yt_Held s_NoMoment_Held s_NoMoment_NoMoment)), trivial⟩ : ∀ n C, kk.cl n = some C → ∀ b, it_k09_Held n = some b → PySem.W.kitOne K (.ref C) (.ref C_Held) = some b) n C h b),
    (fun n C b h => (at_ ⟨(itb rfl (kit_no yh_Last yt_Last s_BadWeb_Last s_BadWeb_BadWeb)), (itb rfl (kit_no yh_Last yt_Last s_TooGreat_Last s_TooGreat_TooGreat)), (itb rfl (kit_no yh_Last yt_Last s_Full_Last s_Full_Full)), (itb rfl (kit_no yh_Last yt_Last s_NoRoads_Last s_NoRoads_NoRoads)), (itb rfl (kit_no yh_Last yt_Last s_BadOrder_Last s_BadOrder_BadOrder)), (itb rfl (kit_no yh_Last yt_Last s_TooMany_Last s_TooMany_TooMany)), (itb rfl (kit_no yh_Last yt_Last s_Long_Last s_Long_Long)), (itb rfl (kit_no yh_Last yt_Last s_Busy_Last s_Busy_Busy)), (itb rfl (kit_no yh_Last yt_Last s_NothingBack_Last s_NothingBack_NothingBack)), (itb rfl (kit_no yh_Last yt_Last s_NoDeeds_Last s_NoDeeds_NoDeeds)), (itb rfl (kit_no yh_Last yt_Last s_Broken_Last s_Broken_Broken)), (itb rfl (kit_yes yh_Last yt_Last s_Last_Last)), (itb rfl (kit_no yh_Last yt_Last s_Held_Last s_Held_Held)), (itb rfl (kit_no yh_Last yt_Last s_NoRoom_Last s_NoRoom_NoRoom)), (itb rfl (kit_no yh_Last yt_Last s_NoStream_Last s_NoStream_NoStream)), (itb rfl (kit_no yh_Last yt_Last s_NoText_Last s_NoText_NoText)), (itb rfl (kit_no yh_Last yt_Last s_NoDoor_Last s_NoDoor_NoDoor)), (itb rfl (kit_no yh_Last yt_Last s_NoRoad_Last s_NoRoad_NoRoad)), (itb rfl (kit_no yh_Last yt_Last s_NoHouse_Last s_NoHouse_NoHouse)), (itb rfl (kit_no yh_Last yt_Last s_NoEnd_Last s_NoEnd_NoEnd)), (itb rfl (kit_no yh_Last yt_Last s_NoMoment_Last s_NoMoment_NoMoment)), trivial⟩ : ∀ n C, kk.cl n = some C → ∀ b, it_k09_Last n = some b → PySem.W.kitOne K (.ref C) (.ref C_Last) = some b) n C h b),
    (fun n C b h => (at_ ⟨(itb rfl (kit_no yh_Long yt_Long s_BadWeb_Long s_BadWeb_BadWeb)), (itb rfl (kit_no yh_Long yt_Long s_TooGreat_Long s_TooGreat_TooGreat)), (itb rfl (kit_no yh_Long yt_Long s_Full_Long s_Full_Full)), (itb rfl (kit_no yh_Long yt_Long s_NoRoads_Long s_NoRoads_NoRoads)), (itb rfl (kit_no yh_Long yt_Long s_BadOrder_Long s_BadOrder_BadOrder)), (itb rfl (kit_no yh_Long yt_Long s_TooMany_Long s_TooMany_TooMany)), (itb rfl (kit_yes yh_Long yt_Long s_Long_Long)), (itb rfl (kit_no yh_Long yt_Long s_Busy_Long s_Busy_Busy)), (itb rfl (kit_no yh_Long yt_Long s_NothingBack_Long s_NothingBack_NothingBack)), (itb rfl (kit_no yh_Long yt_Long s_NoDeeds_Long s_NoDeeds_NoDeeds)), (itb rfl (kit_no yh_Long yt_Long s_Broken_Long s_Broken_Broken)), (itb rfl (kit_no yh_Long yt_Long s_Last_Long s_Last_Last)), (itb rfl (kit_no yh_Long yt_Long s_Held_Long s_Held_Held)), (itb rfl (kit_no yh_Long yt_Long s_NoRoom_Long s_NoRoom_NoRoom)), (itb rfl (kit_no yh_Long yt_Long s_NoStream_Long s_NoStream_NoStream)), (itb rfl (kit_no yh_Long yt_Long s_NoText_Long s_NoText_NoText)), (itb rfl (kit_no yh_Long yt_Long s_NoDoor_Long s_NoDoor_NoDoor)), (itb rfl (kit_no yh_Long yt_Long s_NoRoad_Long s_NoRoad_NoRoad)), (itb rfl (kit_no yh_Long yt_Long s_NoHouse_Long s_NoHouse_NoHouse)), (itb rfl (kit_no yh_Long yt_Long s_NoEnd_Long s_NoEnd_NoEnd)), (itb rfl (kit_no yh_Long yt_Long s_NoMoment_Long s_NoMoment_NoMoment)), trivial⟩ : ∀ n C, kk.cl n = some C → ∀ b, it_k09_Long n = some b → PySem.W.kitOne K (.ref C) (.ref C_Long) = some b) n C h b),
    (fun n C b h => (at_ ⟨(itb rfl (kit_LE s_BadWeb_LookupError)), (itb rfl (kit_LE s_TooGreat_LookupError)), (itb rfl (kit_LE s_Full_LookupError)), (itb rfl (kit_LE s_NoRoads_LookupError)), (itb rfl (kit_LE s_BadOrder_LookupError)), (itb rfl (kit_LE s_TooMany_LookupError)), (itb rfl (kit_LE s_Long_LookupError)), (itb rfl (kit_LE s_Busy_LookupError)), (itb rfl (kit_LE s_NothingBack_LookupError)), (itb rfl (kit_LE s_NoDeeds_LookupError)), (itb rfl (kit_LE s_Broken_LookupError)), (itb rfl (kit_LE s_Last_LookupError)), (itb rfl (kit_LE s_Held_LookupError)), (itb rfl (kit_LE s_NoRoom_LookupError)), (itb rfl (kit_LE s_NoStream_LookupError)), (itb rfl (kit_LE s_NoText_LookupError)), (itb rfl (kit_LE s_NoDoor_LookupError)), (itb rfl (kit_LE s_NoRoad_LookupError)), (itb rfl (kit_LE s_NoHouse_LookupError)), (itb rfl (kit_LE s_NoEnd_LookupError)), (itb rfl (kit_LE s_NoMoment_LookupError)), trivial⟩ : ∀ n C, kk.cl n = some C → ∀ b, it_k09_LookupError n = some b → PySem.W.kitOne K (.ref C) (.type "LookupError") = some b) n C h b),
    (fun n C b h => (at_ ⟨(itb rfl (kit_no yh_NoDeeds yt_NoDeeds s_BadWeb_NoDeeds s_BadWeb_BadWeb)), (itb rfl (kit_no yh_NoDeeds yt_NoDeeds s_TooGreat_NoDeeds s_TooGreat_TooGreat)), (itb rfl (kit_no yh_NoDeeds yt_NoDeeds s_Full_NoDeeds s_Full_Full)), (itb rfl (kit_no yh_NoDeeds yt_NoDeeds s_NoRoads_NoDeeds s_NoRoads_NoRoads)), (itb rfl (kit_no yh_NoDeeds yt_NoDeeds s_BadOrder_NoDeeds s_BadOrder_BadOrder)), (itb rfl (kit_no yh_NoDeeds yt_NoDeeds s_TooMany_NoDeeds s_TooMany_TooMany)), (itb rfl (kit_no yh_NoDeeds yt_NoDeeds s_Long_NoDeeds s_Long_Long)), (itb rfl (kit_no yh_NoDeeds yt_NoDeeds s_Busy_NoDeeds s_Busy_Busy)), (itb rfl (kit_no yh_NoDeeds yt_NoDeeds s_NothingBack_NoDeeds s_NothingBack_NothingBack)), (itb rfl (kit_yes yh_NoDeeds yt_NoDeeds s_NoDeeds_NoDeeds)), (itb rfl (kit_no yh_NoDeeds yt_NoDeeds s_Broken_NoDeeds s_Broken_Broken)), (itb rfl (kit_no yh_NoDeeds yt_NoDeeds s_Last_NoDeeds s_Last_Last)), (itb rfl (kit_no yh_NoDeeds yt_NoDeeds s_Held_NoDeeds s_Held_Held)), (itb rfl (kit_no yh_NoDeeds yt_NoDeeds s_NoRoom_NoDeeds s_NoRoom_NoRoom)), (itb rfl (kit_no yh_NoDeeds yt_NoDeeds s_NoStream_NoDeeds s_NoStream_NoStream)), (itb rfl (kit_no yh_NoDeeds yt_NoDeeds s_NoText_NoDeeds s_NoText_NoText)), (itb rfl (kit_no yh_NoDeeds yt_NoDeeds s_NoDoor_NoDeeds s_NoDoor_NoDoor)), (itb rfl (kit_no yh_NoDeeds yt_NoDeeds s_NoRoad_NoDeeds s_NoRoad_NoRoad)), (itb rfl (kit_no yh_NoDeeds yt_NoDeeds s_NoHouse_NoDeeds s_NoHouse_NoHouse)), (itb rfl (kit_no yh_NoDeeds yt_NoDeeds s_NoEnd_NoDeeds s_NoEnd_NoEnd)), (itb rfl (kit_no yh_NoDeeds yt_NoDeeds s_NoMoment_NoDeeds s_NoMoment_NoMoment)), trivial⟩ : ∀ n C, kk.cl n = some C → ∀ b, it_k09_NoDeeds n = some b → PySem.W.kitOne K (.ref C) (.ref C_NoDeeds) = some b) n C h b),
    (fun n C b h => (at_ ⟨(itb rfl (kit_no yh_NoDoor yt_NoDoor s_BadWeb_NoDoor s_BadWeb_BadWeb)), (itb rfl (kit_no yh_NoDoor yt_NoDoor s_TooGreat_NoDoor s_TooGreat_TooGreat)), (itb rfl (kit_no yh_NoDoor yt_NoDoor s_Full_NoDoor s_Full_Full)), (itb rfl (kit_no yh_NoDoor yt_NoDoor s_NoRoads_NoDoor s_NoRoads_NoRoads)), (itb rfl (kit_no yh_NoDoor yt_NoDoor s_BadOrder_NoDoor s_BadOrder_BadOrder)), (itb rfl (kit_no yh_NoDoor yt_NoDoor s_TooMany_NoDoor s_TooMany_TooMany)), (itb rfl (kit_no yh_NoDoor yt_NoDoor s_Long_NoDoor s_Long_Long)), (itb rfl (kit_no yh_NoDoor yt_NoDoor s_Busy_NoDoor s_Busy_Busy)), (itb rfl (kit_no yh_NoDoor yt_NoDoor s_NothingBack_NoDoor s_NothingBack_NothingBack)), (itb rfl (kit_no yh_NoDoor yt_NoDoor s_NoDeeds_NoDoor s_NoDeeds_NoDeeds)), (itb rfl (kit_no yh_NoDoor yt_NoDoor s_Broken_NoDoor s_Broken_Broken)), (itb rfl (kit_no yh_NoDoor yt_NoDoor s_Last_NoDoor s_Last_Last)), (itb rfl (kit_no yh_NoDoor yt_NoDoor s_Held_NoDoor s_Held_Held)), (itb rfl (kit_no yh_NoDoor yt_NoDoor s_NoRoom_NoDoor s_NoRoom_NoRoom)), (itb rfl (kit_no yh_NoDoor yt_NoDoor s_NoStream_NoDoor s_NoStream_NoStream)), (itb rfl (kit_no yh_NoDoor yt_NoDoor s_NoText_NoDoor s_NoText_NoText)), (itb rfl (kit_yes yh_NoDoor yt_NoDoor s_NoDoor_NoDoor)), (itb rfl (kit_no yh_NoDoor yt_NoDoor s_NoRoad_NoDoor s_NoRoad_NoRoad)), (itb rfl (kit_no yh_NoDoor yt_NoDoor s_NoHouse_NoDoor s_NoHouse_NoHouse)), (itb rfl (kit_no yh_NoDoor yt_NoDoor s_NoEnd_NoDoor s_NoEnd_NoEnd)), (itb rfl (kit_no yh_NoDoor yt_NoDoor s_NoMoment_NoDoor s_NoMoment_NoMoment)), trivial⟩ : ∀ n C, kk.cl n = some C → ∀ b, it_k09_NoDoor n = some b → PySem.W.kitOne K (.ref C) (.ref C_NoDoor) = some b) n C h b),
    (fun n C b h => (at_ ⟨(itb rfl (kit_no yh_NoEnd yt_NoEnd s_BadWeb_NoEnd s_BadWeb_BadWeb)), (itb rfl (kit_no yh_NoEnd yt_NoEnd s_TooGreat_NoEnd s_TooGreat_TooGreat)), (itb rfl (kit_no yh_NoEnd yt_NoEnd s_Full_NoEnd s_Full_Full)), (itb rfl (kit_no yh_NoEnd yt_NoEnd s_NoRoads_NoEnd s_NoRoads_NoRoads)), (itb rfl (kit_no yh_NoEnd yt_NoEnd s_BadOrder_NoEnd s_BadOrder_BadOrder)), (itb rfl (kit_no yh_NoEnd yt_NoEnd s_TooMany_NoEnd s_TooMany_TooMany)), (itb rfl (kit_no yh_NoEnd yt_NoEnd s_Long_NoEnd s_Long_Long)), (itb rfl (kit_no yh_NoEnd yt_NoEnd s_Busy_NoEnd s_Busy_Busy)), (itb rfl (kit_no yh_NoEnd yt_NoEnd s_NothingBack_NoEnd s_NothingBack_NothingBack)), (itb rfl (kit_no yh_NoEnd yt_NoEnd s_NoDeeds_NoEnd s_NoDeeds_NoDeeds)), (itb rfl (kit_no yh_NoEnd yt_NoEnd s_Broken_NoEnd s_Broken_Broken)), (itb rfl (kit_no yh_NoEnd yt_NoEnd s_Last_NoEnd s_Last_Last)), (itb rfl (kit_no yh_NoEnd yt_NoEnd s_Held_NoEnd s_Held_Held)), (itb rfl (kit_no yh_NoEnd yt_NoEnd s_NoRoom_NoEnd s_NoRoom_NoRoom)), (itb rfl (kit_no yh_NoEnd yt_NoEnd s_NoStream_NoEnd s_NoStream_NoStream)), (itb rfl (kit_no yh_NoEnd yt_NoEnd s_NoText_NoEnd s_NoText_NoText)), (itb rfl (kit_no yh_NoEnd yt_NoEnd s_NoDoor_NoEnd s_NoDoor_NoDoor)), (itb rfl (kit_no yh_NoEnd yt_NoEnd s_NoRoad_NoEnd s_NoRoad_NoRoad)), (itb rfl (kit_no yh_NoEnd yt_NoEnd s_NoHouse_NoEnd s_NoHouse_NoHouse)), (itb rfl (kit_yes yh_NoEnd yt_NoEnd s_NoEnd_NoEnd)), (itb rfl (kit_no yh_NoEnd yt_NoEnd s_NoMoment_NoEnd s_NoMoment_NoMoment)), trivial⟩ : ∀ n C, kk.cl n = some C → ∀ b, it_k09_NoEnd n = some b → PySem.W.kitOne K (.ref C) (.ref C_NoEnd) = some b) n C h b),
    (fun n C b h => (at_ ⟨(itb rfl (kit_no yh_NoHouse yt_NoHouse s_BadWeb_NoHouse s_BadWeb_BadWeb)), (itb rfl (kit_no yh_NoHouse yt_NoHouse s_TooGreat_NoHouse s_TooGreat_TooGreat)), (itb rfl (kit_no yh_NoHouse yt_NoHouse s_Full_NoHouse s_Full_Full)), (itb rfl (kit_no yh_NoHouse yt_NoHouse s_NoRoads_NoHouse s_NoRoads_NoRoads)), (itb rfl (kit_no yh_NoHouse yt_NoHouse s_BadOrder_NoHouse s_BadOrder_BadOrder)), (itb rfl (kit_no yh_NoHouse yt_NoHouse s_TooMany_NoHouse s_TooMany_TooMany)), (itb rfl (kit_no yh_NoHouse yt_NoHouse s_Long_NoHouse s_Long_Long)), (itb rfl (kit_no yh_NoHouse yt_NoHouse s_Busy_NoHouse s_Busy_Busy)), (itb rfl (kit_no yh_NoHouse yt_NoHouse s_NothingBack_NoHouse s_NothingBack_NothingBack)), (itb rfl (kit_no yh_NoHouse yt_NoHouse s_NoDeeds_NoHouse s_NoDeeds_NoDeeds)), (itb rfl (kit_no yh_NoHouse yt_NoHouse s_Broken_NoHouse s_Broken_Broken)), (itb rfl (kit_no yh_NoHouse yt_NoHouse s_Last_NoHouse s_Last_Last)), (itb rfl (kit_no yh_NoHouse yt_NoHouse s_Held_NoHouse s_Held_Held)), (itb rfl (kit_no yh_NoHouse yt_NoHouse s_NoRoom_NoHouse s_NoRoom_NoRoom)), (itb rfl (kit_no yh_NoHouse yt_NoHouse s_NoStream_NoHouse s_NoStream_NoStream)), (itb rfl (kit_no yh_NoHouse yt_NoHouse s_NoText_NoHouse s_NoText_NoText)), (itb rfl (kit_no yh_NoHouse yt_NoHouse s_NoDoor_NoHouse s_NoDoor_NoDoor)), (itb rfl (kit_no yh_NoHouse yt_NoHouse s_NoRoad_NoHouse s_NoRoad_NoRoad)), (itb rfl (kit_yes yh_NoHouse yt_NoHouse s_NoHouse_NoHouse)), (itb rfl (kit_no yh_NoHouse yt_NoHouse s_NoEnd_NoHouse s_NoEnd_NoEnd)), (itb rfl (kit_no yh_NoHouse yt_NoHouse s_NoMoment_NoHouse s_NoMoment_NoMoment)), trivial⟩ : ∀ n C, kk.cl n = some C → ∀ b, it_k09_NoHouse n = some b → PySem.W.kitOne K (.ref C) (.ref C_NoHouse) = some b) n C h b),
    (fun n C b h => (at_ ⟨(itb rfl (kit_no yh_NoMoment yt_NoMoment s_BadWeb_NoMoment s_BadWeb_BadWeb)), (itb rfl (kit_no yh_NoMoment yt_NoMoment s_TooGreat_NoMoment s_TooGreat_TooGreat)), (itb rfl (kit_no yh_NoMoment yt_NoMoment s_Full_NoMoment s_Full_Full)), (itb rfl (kit_no yh_NoMoment yt_NoMoment s_NoRoads_NoMoment s_NoRoads_NoRoads)), (itb rfl (kit_no yh_NoMoment yt_NoMoment s_BadOrder_NoMoment s_BadOrder_BadOrder)), (itb rfl (kit_no yh_NoMoment yt_NoMoment s_TooMany_NoMoment s_TooMany_TooMany)), (itb rfl (kit_no yh_NoMoment yt_NoMoment s_Long_NoMoment s_Long_Long)), (itb rfl (kit_no yh_NoMoment yt_NoMoment s_Busy_NoMoment s_Busy_Busy)), (itb rfl (kit_no yh_NoMoment yt_NoMoment s_NothingBack_NoMoment s_NothingBack_NothingBack)), (itb rfl (kit_no yh_NoMoment yt_NoMoment s_NoDeeds_NoMoment s_NoDeeds_NoDeeds)), (itb rfl (kit_no yh_NoMoment yt_NoMoment s_Broken_NoMoment s_Broken_Broken)), (itb rfl (kit_no yh_NoMoment yt_NoMoment s_Last_NoMoment s_Last_Last)), (itb rfl (kit_no yh_NoMoment yt_NoMoment s_Held_NoMoment s_Held_Held)), (itb rfl (kit_no yh_NoMoment yt_NoMoment s_NoRoom_NoMoment s_NoRoom_NoRoom)), (itb rfl (kit_no yh_NoMoment yt_NoMoment s_NoStream_NoMoment s_NoStream_NoStream)), (itb rfl (kit_no yh_NoMoment yt_NoMoment s_NoText_NoMoment s_NoText_NoText)), (itb rfl (kit_no yh_NoMoment yt_NoMoment s_NoDoor_NoMoment s_NoDoor_NoDoor)), (itb rfl (kit_no yh_NoMoment yt_NoMoment s_NoRoad_NoMoment s_NoRoad_NoRoad)), (itb rfl (kit_no yh_NoMoment yt_NoMoment s_NoHouse_NoMoment s_NoHouse_NoHouse)), (itb rfl (kit_no yh_NoMoment yt_NoMoment s_NoEnd_NoMoment s_NoEnd_NoEnd)), (itb rfl (kit_yes yh_NoMoment yt_NoMoment s_NoMoment_NoMoment)), trivial⟩ : ∀ n C, kk.cl n = some C → ∀ b, it_k09_NoMoment n = some b → PySem.W.kitOne K (.ref C) (.ref C_NoMoment) = some b) n C h b),
    (fun n C b h => (at_ ⟨(itb rfl (kit_no yh_NoRoad yt_NoRoad s_BadWeb_NoRoad s_BadWeb_BadWeb)), (itb rfl (kit_no yh_NoRoad yt_NoRoad s_TooGreat_NoRoad s_TooGreat_TooGreat)), (itb rfl (kit_no yh_NoRoad yt_NoRoad s_Full_NoRoad s_Full_Full)), (itb rfl (kit_no yh_NoRoad yt_NoRoad s_NoRoads_NoRoad s_NoRoads_NoRoads)), (itb rfl (kit_no yh_NoRoad yt_NoRoad s_BadOrder_NoRoad s_BadOrder_BadOrder)), (itb rfl (kit_no yh_NoRoad yt_NoRoad s_TooMany_NoRoad s_TooMany_TooMany)), (itb rfl (kit_no yh_NoRoad yt_NoRoad s_Long_NoRoad s_Long_Long)), (itb rfl (kit_no yh_NoRoad yt_NoRoad s_Busy_NoRoad s_Busy_Busy)), (itb rfl (kit_no yh_NoRoad yt_NoRoad s_NothingBack_NoRoad s_NothingBack_NothingBack)), (itb rfl (kit_no yh_NoRoad yt_NoRoad s_NoDeeds_NoRoad s_NoDeeds_NoDeeds)), (itb rfl (kit_no yh_NoRoad yt_NoRoad s_Broken_NoRoad s_Broken_Broken)), (itb rfl (kit_no yh_NoRoad yt_NoRoad s_Last_NoRoad s_Last_Last)), (itb rfl (kit_no yh_NoRoad yt_NoRoad s_Held_NoRoad s_Held_Held)), (itb rfl (kit_no yh_NoRoad yt_NoRoad s_NoRoom_NoRoad s_NoRoom_NoRoom)), (itb rfl (kit_no yh_NoRoad yt_NoRoad s_NoStream_NoRoad s_NoStream_NoStream)), (itb rfl (kit_no yh_NoRoad yt_NoRoad s_NoText_NoRoad s_NoText_NoText)), (itb rfl (kit_no yh_NoRoad yt_NoRoad s_NoDoor_NoRoad s_NoDoor_NoDoor)), (itb rfl (kit_yes yh_NoRoad yt_NoRoad s_NoRoad_NoRoad)), (itb rfl (kit_no yh_NoRoad yt_NoRoad s_NoHouse_NoRoad s_NoHouse_NoHouse)), (itb rfl (kit_no yh_NoRoad yt_NoRoad s_NoEnd_NoRoad s_NoEnd_NoEnd)), (itb rfl (kit_no yh_NoRoad yt_NoRoad s_NoMoment_NoRoad s_NoMoment_NoMoment)), trivial⟩ : ∀ n C, kk.cl n = some C → ∀ b, it_k09_NoRoad n = some b → PySem.W.kitOne K (.ref C) (.ref C_NoRoad) = some b) n C h b),
    (fun n C b h => (at_ ⟨(itb rfl (kit_no yh_NoRoads yt_NoRoads s_BadWeb_NoRoads s_BadWeb_BadWeb)), (itb rfl (kit_no yh_NoRoads yt_NoRoads s_TooGreat_NoRoads s_TooGreat_TooGreat)), (itb rfl (kit_no yh_NoRoads yt_NoRoads s_Full_NoRoads s_Full_Full)), (itb rfl (kit_yes yh_NoRoads yt_NoRoads s_NoRoads_NoRoads)), (itb rfl (kit_no yh_NoRoads yt_NoRoads s_BadOrder_NoRoads s_BadOrder_BadOrder)), (itb rfl (kit_no yh_NoRoads yt_NoRoads s_TooMany_NoRoads s_TooMany_TooMany)), (itb rfl (kit_no yh_NoRoads yt_NoRoads s_Long_NoRoads s_Long_Long)), (itb rfl (kit_no yh_NoRoads yt_NoRoads s_Busy_NoRoads s_Busy_Busy)), (itb rfl (kit_no yh_NoRoads yt_NoRoads s_NothingBack_NoRoads s_NothingBack_NothingBack)), (itb rfl (kit_no yh_NoRoads yt_NoRoads s_NoDeeds_NoRoads s_NoDeeds_NoDeeds)), (itb rfl (kit_no yh_NoRoads yt_NoRoads s_Broken_NoRoads s_Broken_Broken)), (itb rfl (kit_no yh_NoRoads yt_NoRoads s_Last_NoRoads s_Last_Last)), (itb rfl (kit_no yh_NoRoads yt_NoRoads s_Held_NoRoads s_Held_Held)), (itb rfl (kit_no yh_NoRoads yt_NoRoads s_NoRoom_NoRoads s_NoRoom_NoRoom)), (itb rfl (kit_no yh_NoRoads yt_NoRoads s_NoStream_NoRoads s_NoStream_NoStream)), (itb rfl (kit_no yh_NoRoads yt_NoRoads s_NoText_NoRoads s_NoText_NoText)), (itb rfl (kit_no yh_NoRoads yt_NoRoads s_NoDoor_NoRoads s_NoDoor_NoDoor)), (itb rfl (kit_no yh_NoRoads yt_NoRoads s_NoRoad_NoRoads s_NoRoad_NoRoad)), (itb rfl (kit_no yh_NoRoads yt_NoRoads s_NoHouse_NoRoads s_NoHouse_NoHouse)), (itb rfl (kit_no yh_NoRoads yt_NoRoads s_NoEnd_NoRoads s_NoEnd_NoEnd)), (itb rfl (kit_no yh_NoRoads yt_NoRoads s_NoMoment_NoRoads s_NoMoment_NoMoment)), trivial⟩ : ∀ n C, kk.cl n = some C → ∀ b, it_k09_NoRoads n = some b → PySem.W.kitOne K (.ref C) (.ref C_NoRoads) = some b) n C h b),
    (fun n C b h => (at_ ⟨(itb rfl (kit_no yh_NoRoom yt_NoRoom s_BadWeb_NoRoom s_BadWeb_BadWeb)), (itb rfl (kit_no yh_NoRoom yt_NoRoom s_TooGreat_NoRoom s_TooGreat_TooGreat)), (itb rfl (kit_no yh_NoRoom yt_NoRoom s_Full_NoRoom s_Full_Full)), (itb rfl (kit_no yh_NoRoom yt_NoRoom s_NoRoads_NoRoom s_NoRoads_NoRoads)), (itb rfl (kit_no yh_NoRoom yt_NoRoom s_BadOrder_NoRoom s_BadOrder_BadOrder)), (itb rfl (kit_no yh_NoRoom yt_NoRoom s_TooMany_NoRoom s_TooMany_TooMany)), (itb rfl (kit_no yh_NoRoom yt_NoRoom s_Long_NoRoom s_Long_Long)), (itb rfl (kit_no yh_NoRoom yt_NoRoom s_Busy_NoRoom s_Busy_Busy)), (itb rfl (kit_no yh_NoRoom yt_NoRoom s_NothingBack_NoRoom s_NothingBack_NothingBack)), (itb rfl (kit_no yh_NoRoom yt_NoRoom s_NoDeeds_NoRoom s_NoDeeds_NoDeeds)), (itb rfl (kit_no yh_NoRoom yt_NoRoom s_Broken_NoRoom s_Broken_Broken)), (itb rfl (kit_no yh_NoRoom yt_NoRoom s_Last_NoRoom s_Last_Last)), (itb rfl (kit_no yh_NoRoom yt_NoRoom s_Held_NoRoom s_Held_Held)), (itb rfl (kit_yes yh_NoRoom yt_NoRoom s_NoRoom_NoRoom)), (itb rfl (kit_no yh_NoRoom yt_NoRoom s_NoStream_NoRoom s_NoStream_NoStream)), (itb rfl (kit_no yh_NoRoom yt_NoRoom s_NoText_NoRoom s_NoText_NoText)), (itb rfl (kit_no yh_NoRoom yt_NoRoom s_NoDoor_NoRoom s_NoDoor_NoDoor)), (itb rfl (kit_no yh_NoRoom yt_NoRoom s_NoRoad_NoRoom s_NoRoad_NoRoad)), (itb rfl (kit_no yh_NoRoom yt_NoRoom s_NoHouse_NoRoom s_NoHouse_NoHouse)), (itb rfl (kit_no yh_NoRoom yt_NoRoom s_NoEnd_NoRoom s_NoEnd_NoEnd)), (itb rfl (kit_no yh_NoRoom yt_NoRoom s_NoMoment_NoRoom s_NoMoment_NoMoment)), trivial⟩ : ∀ n C, kk.cl n = some C → ∀ b, it_k09_NoRoom n = some b → PySem.W.kitOne K (.ref C) (.ref C_NoRoom) = some b) n C h b),
    (fun n C b h => (at_ ⟨(itb rfl (kit_no yh_NoStream yt_NoStream s_BadWeb_NoStream s_BadWeb_BadWeb)), (itb rfl (kit_no yh_NoStream yt_NoStream s_TooGreat_NoStream s_TooGreat_TooGreat)), (itb rfl (kit_no yh_NoStream yt_NoStream s_Full_NoStream s_Full_Full)), (itb rfl (kit_no yh_NoStream yt_NoStream s_NoRoads_NoStream s_NoRoads_NoRoads)), (itb rfl (kit_no yh_NoStream yt_NoStream s_BadOrder_NoStream s_BadOrder_BadOrder)), (itb rfl (kit_no yh_NoStream yt_NoStream s_TooMany_NoStream s_TooMany_TooMany)), (itb rfl (kit_no yh_NoStream yt_NoStream s_Long_NoStream s_Long_Long)), (itb rfl (kit_no yh_NoStream yt_NoStream s_Busy_NoStream s_Busy_Busy)), (itb rfl (kit_no yh_NoStream yt_NoStream s_NothingBack_NoStream s_NothingBack_NothingBack)), (itb rfl (kit_no yh_NoStream yt_NoStream s_NoDeeds_NoStream s_NoDeeds_NoDeeds)), (itb rfl (kit_no yh_NoStream yt_NoStream s_Broken_NoStream s_Broken_Broken)), (itb rfl (kit_no yh_NoStream yt_NoStream s_Last_NoStream s_Last_Last)), (itb rfl (kit_no yh_NoStream yt_NoStream s_Held_NoStream s_Held_Held)), (itb rfl (kit_no yh_NoStream yt_NoStream s_NoRoom_NoStream s_NoRoom_NoRoom)), (itb rfl (kit_yes yh_NoStream yt_NoStream s_NoStream_NoStream)), (itb rfl (kit_no yh_NoStream yt_NoStream s_NoText_NoStream s_NoText_NoText)), (itb rfl (kit_no yh_NoStream yt_NoStream s_NoDoor_NoStream s_NoDoor_NoDoor)), (itb rfl (kit_no yh_NoStream yt_NoStream s_NoRoad_NoStream s_NoRoad_NoRoad)), (itb rfl (kit_no yh_NoStream yt_NoStream s_NoHouse_NoStream s_NoHouse_NoHouse)), (itb rfl (kit_no yh_NoStream yt_NoStream s_NoEnd_NoStream s_NoEnd_NoEnd)), (itb rfl (kit_no yh_NoStream yt_NoStream s_NoMoment_NoStream s_NoMoment_NoMoment)), trivial⟩ : ∀ n C, kk.cl n = some C → ∀ b, it_k09_NoStream n = some b → PySem.W.kitOne K (.ref C) (.ref C_NoStream) = some b) n C h b),
    (fun n C b h => (at_ ⟨(itb rfl (kit_no yh_NoText yt_NoText s_BadWeb_NoText s_BadWeb_BadWeb)), (itb rfl (kit_no yh_NoText yt_NoText s_TooGreat_NoText s_TooGreat_TooGreat)), (itb rfl (kit_no yh_NoText yt_NoText s_Full_NoText s_Full_Full)), (itb rfl (kit_no yh_NoText yt_NoText s_NoRoads_NoText s_NoRoads_NoRoads)), (itb rfl (kit_no yh_NoText yt_NoText s_BadOrder_NoText s_BadOrder_BadOrder)), (itb rfl (kit_no yh_NoText yt_NoText s_TooMany_NoText s_TooMany_TooMany)), (itb rfl (kit_no yh_NoText yt_NoText s_Long_NoText s_Long_Long)), (itb rfl (kit_no yh_NoText yt_NoText s_Busy_NoText s_Busy_Busy)), (itb rfl (kit_no yh_NoText yt_NoText s_NothingBack_NoText s_NothingBack_NothingBack)), (itb rfl (kit_no yh_NoText yt_NoText s_NoDeeds_NoText s_NoDeeds_NoDeeds)), (itb rfl (kit_no yh_NoText yt_NoText s_Broken_NoText s_Broken_Broken)), (itb rfl (kit_no yh_NoText yt_NoText s_Last_NoText s_Last_Last)), (itb rfl (kit_no yh_NoText yt_NoText s_Held_NoText s_Held_Held)), (itb rfl (kit_no yh_NoText yt_NoText s_NoRoom_NoText s_NoRoom_NoRoom)), (itb rfl (kit_no yh_NoText yt_NoText s_NoStream_NoText s_NoStream_NoStream)), (itb rfl (kit_yes yh_NoText yt_NoText s_NoText_NoText)), (itb rfl (kit_no yh_NoText yt_NoText s_NoDoor_NoText s_NoDoor_NoDoor)), (itb rfl (kit_no yh_NoText yt_NoText s_NoRoad_NoText s_NoRoad_NoRoad)), (itb rfl (kit_no yh_NoText yt_NoText s_NoHouse_NoText s_NoHouse_NoHouse)), (itb rfl (kit_no yh_NoText yt_NoText s_NoEnd_NoText s_NoEnd_NoEnd)), (itb rfl (kit_no yh_NoText yt_NoText s_NoMoment_NoText s_NoMoment_NoMoment)), trivial⟩ : ∀ n C, kk.cl n = some C → ∀ b, it_k09_NoText n = some b → PySem.W.kitOne K (.ref C) (.ref C_NoText) = some b) n C h b),
    (fun n C b h => (at_ ⟨(itb rfl (kit_no yh_NothingBack yt_NothingBack s_BadWeb_NothingBack s_BadWeb_BadWeb)), (itb rfl (kit_no yh_NothingBack yt_NothingBack s_TooGreat_NothingBack s_TooGreat_TooGreat)), (itb rfl (kit_no yh_NothingBack yt_NothingBack s_Full_NothingBack s_Full_Full)), (itb rfl (kit_no yh_NothingBack yt_NothingBack s_NoRoads_NothingBack s_NoRoads_NoRoads)), (itb rfl (kit_no yh_NothingBack yt_NothingBack s_BadOrder_NothingBack s_BadOrder_BadOrder)), (itb rfl (kit_no yh_NothingBack yt_NothingBack s_TooMany_NothingBack s_TooMany_TooMany)), (itb rfl (kit_no yh_NothingBack yt_NothingBack s_Long_NothingBack s_Long_Long)), (itb rfl (kit_no yh_NothingBack yt_NothingBack s_Busy_NothingBack s_Busy_Busy)), (itb rfl (kit_yes yh_NothingBack yt_NothingBack s_NothingBack_NothingBack)), (itb rfl (kit_no yh_NothingBack yt_NothingBack s_NoDeeds_NothingBack s_NoDeeds_NoDeeds)), (itb rfl (kit_no yh_NothingBack yt_NothingBack s_Broken_NothingBack s_Broken_Broken)), (itb rfl (kit_no yh_NothingBack yt_NothingBack s_Last_NothingBack s_Last_Last)), (itb rfl (kit_no yh_NothingBack yt_NothingBack s_Held_NothingBack s_Held_Held)), (itb rfl (kit_no yh_NothingBack yt_NothingBack s_NoRoom_NothingBack s_NoRoom_NoRoom)), (itb rfl (kit_no yh_NothingBack yt_NothingBack s_NoStream_NothingBack s_NoStream_NoStream)), (itb rfl (kit_no yh_NothingBack yt_NothingBack s_NoText_NothingBack s_NoText_NoText)), (itb rfl (kit_no yh_NothingBack yt_NothingBack s_NoDoor_NothingBack s_NoDoor_NoDoor)), (itb rfl (kit_no yh_NothingBack yt_NothingBack s_NoRoad_NothingBack s_NoRoad_NoRoad)), (itb rfl (kit_no yh_NothingBack yt_NothingBack s_NoHouse_NothingBack s_NoHouse_NoHouse)), (itb rfl (kit_no yh_NothingBack yt_NothingBack s_NoEnd_NothingBack s_NoEnd_NoEnd)), (itb rfl (kit_no yh_NothingBack yt_NothingBack s_NoMoment_NothingBack s_NoMoment_NoMoment)), trivial⟩ : ∀ n C, kk.cl n = some C → ∀ b, it_k09_NothingBack n = some b → PySem.W.kitOne K (.ref C) (.ref C_NothingBack) = some b) n C h b),
    (fun n C b h => (at_ ⟨(itb rfl (kit_no yh_TooGreat yt_TooGreat s_BadWeb_TooGreat s_BadWeb_BadWeb)), (itb rfl (kit_yes yh_TooGreat yt_TooGreat s_TooGreat_TooGreat)), (itb rfl (kit_no yh_TooGreat yt_TooGreat s_Full_TooGreat s_Full_Full)), (itb rfl (kit_no yh_TooGreat yt_TooGreat s_NoRoads_TooGreat s_NoRoads_NoRoads)), (itb rfl (kit_no yh_TooGreat yt_TooGreat s_BadOrder_TooGreat s_BadOrder_BadOrder)), (itb rfl (kit_no yh_TooGreat yt_TooGreat s_TooMany_TooGreat s_TooMany_TooMany)), (itb rfl (kit_no yh_TooGreat yt_TooGreat s_Long_TooGreat s_Long_Long)), (itb rfl (kit_no yh_TooGreat yt_TooGreat s_Busy_TooGreat s_Busy_Busy)), (itb rfl (kit_no yh_TooGreat yt_TooGreat s_NothingBack_TooGreat s_NothingBack_NothingBack)), (itb rfl (kit_no yh_TooGreat yt_TooGreat s_NoDeeds_TooGreat s_NoDeeds_NoDeeds)), (itb rfl (kit_no yh_TooGreat yt_TooGreat s_Broken_TooGreat s_Broken_Broken)), (itb rfl (kit_no yh_TooGreat yt_TooGreat s_Last_TooGreat s_Last_Last)), (itb rfl (kit_no yh_TooGreat yt_TooGreat s_Held_TooGreat s_Held_Held)), (itb rfl (kit_no yh_TooGreat yt_TooGreat s_NoRoom_TooGreat s_NoRoom_NoRoom)), (itb rfl (kit_no yh_TooGreat yt_TooGreat s_NoStream_TooGreat s_NoStream_NoStream)), (itb rfl (kit_no yh_TooGreat yt_TooGreat s_NoText_TooGreat s_NoText_NoText)), (itb rfl (kit_no yh_TooGreat yt_TooGreat s_NoDoor_TooGreat s_NoDoor_NoDoor)), (itb rfl (kit_no yh_TooGreat yt_TooGreat s_NoRoad_TooGreat s_NoRoad_NoRoad)), (itb rfl (kit_no yh_TooGreat yt_TooGreat s_NoHouse_TooGreat s_NoHouse_NoHouse)), (itb rfl (kit_no yh_TooGreat yt_TooGreat s_NoEnd_TooGreat s_NoEnd_NoEnd)), (itb rfl (kit_no yh_TooGreat yt_TooGreat s_NoMoment_TooGreat s_NoMoment_NoMoment)), trivial⟩ : ∀ n C, kk.cl n = some C → ∀ b, it_k09_TooGreat n = some b → PySem.W.kitOne K (.ref C) (.ref C_TooGreat) = some b) n C h b),
    (fun n C b h => (at_ ⟨(itb rfl (kit_no yh_TooMany yt_TooMany s_BadWeb_TooMany s_BadWeb_BadWeb)), (itb rfl (kit_no yh_TooMany yt_TooMany s_TooGreat_TooMany s_TooGreat_TooGreat)), (itb rfl (kit_no yh_TooMany yt_TooMany s_Full_TooMany s_Full_Full)), (itb rfl (kit_no yh_TooMany yt_TooMany s_NoRoads_TooMany s_NoRoads_NoRoads)), (itb rfl (kit_no yh_TooMany yt_TooMany s_BadOrder_TooMany s_BadOrder_BadOrder)), (itb rfl (kit_yes yh_TooMany yt_TooMany s_TooMany_TooMany)), (itb rfl (kit_no yh_TooMany yt_TooMany s_Long_TooMany s_Long_Long)), (itb rfl (kit_no yh_TooMany yt_TooMany s_Busy_TooMany s_Busy_Busy)), (itb rfl (kit_no yh_TooMany yt_TooMany s_NothingBack_TooMany s_NothingBack_NothingBack)), (itb rfl (kit_no yh_TooMany yt_TooMany s_NoDeeds_TooMany s_NoDeeds_NoDeeds)), (itb rfl (kit_no yh_TooMany yt_TooMany s_Broken_TooMany s_Broken_Broken)), (itb rfl (kit_no yh_TooMany yt_TooMany s_Last_TooMany s_Last_Last)), (itb rfl (kit_no yh_TooMany yt_TooMany s_Held_TooMany s_Held_Held)), (itb rfl (kit_no yh_TooMany yt_TooMany s_NoRoom_TooMany s_NoRoom_NoRoom)), (itb rfl (kit_no yh_TooMany yt_TooMany s_NoStream_TooMany s_NoStream_NoStream)), (itb rfl (kit_no yh_TooMany yt_TooMany s_NoText_TooMany s_NoText_NoText)), (itb rfl (kit_no yh_TooMany yt_TooMany s_NoDoor_TooMany s_NoDoor_NoDoor)), (itb rfl (kit_no yh_TooMany yt_TooMany s_NoRoad_TooMany s_NoRoad_NoRoad)), (itb rfl (kit_no yh_TooMany yt_TooMany s_NoHouse_TooMany s_NoHouse_NoHouse)), (itb rfl (kit_no yh_TooMany yt_TooMany s_NoEnd_TooMany s_NoEnd_NoEnd)), (itb rfl (kit_no yh_TooMany yt_TooMany s_NoMoment_TooMany s_NoMoment_NoMoment)), trivial⟩ : ∀ n C, kk.cl n = some C → ∀ b, it_k09_TooMany n = some b → PySem.W.kitOne K (.ref C) (.ref C_TooMany) = some b) n C h b),
    (fun n C b h => (at_ ⟨(itb rfl (kit_VE s_BadWeb_ValueError)), (itb rfl (kit_VE s_TooGreat_ValueError)), (itb rfl (kit_VE s_Full_ValueError)), (itb rfl (kit_VE s_NoRoads_ValueError)), (itb rfl (kit_VE s_BadOrder_ValueError)), (itb rfl (kit_VE s_TooMany_ValueError)), (itb rfl (kit_VE s_Long_ValueError)), (itb rfl (kit_VE s_Busy_ValueError)), (itb rfl (kit_VE s_NothingBack_ValueError)), (itb rfl (kit_VE s_NoDeeds_ValueError)), (itb rfl (kit_VE s_Broken_ValueError)), (itb rfl (kit_VE s_Last_ValueError)), (itb rfl (kit_VE s_Held_ValueError)), (itb rfl (kit_VE s_NoRoom_ValueError)), (itb rfl (kit_VE s_NoStream_ValueError)), (itb rfl (kit_VE s_NoText_ValueError)), (itb rfl (kit_VE s_NoDoor_ValueError)), (itb rfl (kit_VE s_NoRoad_ValueError)), (itb rfl (kit_VE s_NoHouse_ValueError)), (itb rfl (kit_VE s_NoEnd_ValueError)), (itb rfl (kit_VE s_NoMoment_ValueError)), trivial⟩ : ∀ n C, kk.cl n = some C → ∀ b, it_k09_ValueError n = some b → PySem.W.kitOne K (.ref C) (.type "ValueError") = some b) n C h b),
    (fun n C b h => (at_ ⟨(itb rfl (kit_yes yh_WebError yt_WebError s_BadWeb_WebError)), (itb rfl (kit_yes yh_WebError yt_WebError s_TooGreat_WebError)), (itb rfl (kit_yes yh_WebError yt_WebError s_Full_WebError)), (itb rfl (kit_yes yh_WebError yt_WebError s_NoRoads_WebError)), (itb rfl (kit_yes yh_WebError yt_WebError s_BadOrder_WebError)), (itb rfl (kit_yes yh_WebError yt_WebError s_TooMany_WebError)), (itb rfl (kit_yes yh_WebError yt_WebError s_Long_WebError)), (itb rfl (kit_yes yh_WebError yt_WebError s_Busy_WebError)), (itb rfl (kit_yes yh_WebError yt_WebError s_NothingBack_WebError)), (itb rfl (kit_yes yh_WebError yt_WebError s_NoDeeds_WebError)), (itb rfl (kit_yes yh_WebError yt_WebError s_Broken_WebError)), (itb rfl (kit_yes yh_WebError yt_WebError s_Last_WebError)), (itb rfl (kit_yes yh_WebError yt_WebError s_Held_WebError)), (itb rfl (kit_yes yh_WebError yt_WebError s_NoRoom_WebError)), (itb rfl (kit_yes yh_WebError yt_WebError s_NoStream_WebError)), (itb rfl (kit_yes yh_WebError yt_WebError s_NoText_WebError)), (itb rfl (kit_no yh_WebError yt_WebError s_NoDoor_WebError s_NoDoor_NoDoor)), (itb rfl (kit_no yh_WebError yt_WebError s_NoRoad_WebError s_NoRoad_NoRoad)), (itb rfl (kit_no yh_WebError yt_WebError s_NoHouse_WebError s_NoHouse_NoHouse)), (itb rfl (kit_no yh_WebError yt_WebError s_NoEnd_WebError s_NoEnd_NoEnd)), (itb rfl (kit_no yh_WebError yt_WebError s_NoMoment_WebError s_NoMoment_NoMoment)), trivial⟩ : ∀ n C, kk.cl n = some C → ∀ b, it_k09_WebError n = some b → PySem.W.kitOne K (.ref C) (.ref C_WebError) = some b) n C h b),
    at_ ⟨(no_fld (n := 1) rfl), (no_fld (n := 2) rfl), (no_fld (n := 3) rfl), (no_fld (n := 4) rfl), (no_fld (n := 5) rfl), (fun _ => ⟨⟨ye0_TooMany, ye1_TooMany, yb_TooMany, yh_TooMany⟩, no_TooMany_bound⟩), (no_fld (n := 7) rfl), (no_fld (n := 8) rfl), (no_fld (n := 9) rfl), (no_fld (n := 10) rfl), (no_fld (n := 11) rfl), (no_fld (n := 12) rfl), (no_fld (n := 13) rfl), (no_fld (n := 14) rfl), (no_fld (n := 15) rfl), (no_fld (n := 16) rfl), (no_fld (n := 17) rfl), (no_fld (n := 18) rfl), (no_fld (n := 19) rfl), (no_fld (n := 20) rfl), (no_fld (n := 21) rfl), trivial⟩,
    at_ ⟨(no_fld (n := 1) rfl), (no_fld (n := 2) rfl), (no_fld (n := 3) rfl), (no_fld (n := 4) rfl), (no_fld (n := 5) rfl), (no_fld (n := 6) rfl), (no_fld (n := 7) rfl), (no_fld (n := 8) rfl), (no_fld (n := 9) rfl), (no_fld (n := 10) rfl), (no_fld (n := 11) rfl), (no_fld (n := 12) rfl), (no_fld (n := 13) rfl), (no_fld (n := 14) rfl), (no_fld (n := 15) rfl), (no_fld (n := 16) rfl), (no_fld (n := 17) rfl), (no_fld (n := 18) rfl), (no_fld (n := 19) rfl), (fun _ => ⟨⟨ye0_NoEnd, ye1_NoEnd, yb_NoEnd, yh_NoEnd⟩, no_NoEnd_end⟩), (no_fld (n := 21) rfl), trivial⟩,
    at_ ⟨(no_fld (n := 1) rfl), (no_fld (n := 2) rfl), (no_fld (n := 3) rfl), (no_fld (n := 4) rfl), (no_fld (n := 5) rfl), (no_fld (n := 6) rfl), (no_fld (n := 7) rfl), (no_fld (n := 8) rfl), (no_fld (n := 9) rfl), (no_fld (n := 10) rfl), (no_fld (n := 11) rfl), (no_fld (n := 12) rfl), (no_fld (n := 13) rfl), (no_fld (n := 14) rfl), (fun _ => ⟨⟨ye0_NoStream, ye1_NoStream, yb_NoStream, yh_NoStream⟩, no_NoStream_fault⟩), (no_fld (n := 16) rfl), (no_fld (n := 17) rfl), (no_fld (n := 18) rfl), (no_fld (n := 19) rfl), (no_fld (n := 20) rfl), (no_fld (n := 21) rfl), trivial⟩,
    at_ ⟨(no_fld (n := 1) rfl), (no_fld (n := 2) rfl), (no_fld (n := 3) rfl), (no_fld (n := 4) rfl), (no_fld (n := 5) rfl), (no_fld (n := 6) rfl), (no_fld (n := 7) rfl), (no_fld (n := 8) rfl), (no_fld (n := 9) rfl), (no_fld (n := 10) rfl), (no_fld (n := 11) rfl), (no_fld (n := 12) rfl), (no_fld (n := 13) rfl), (no_fld (n := 14) rfl), (no_fld (n := 15) rfl), (no_fld (n := 16) rfl), (no_fld (n := 17) rfl), (no_fld (n := 18) rfl), (fun _ => ⟨⟨ye0_NoHouse, ye1_NoHouse, yb_NoHouse, yh_NoHouse⟩, no_NoHouse_house⟩), (no_fld (n := 20) rfl), (no_fld (n := 21) rfl), trivial⟩,
    at_ ⟨(no_fld (n := 1) rfl), (no_fld (n := 2) rfl), (no_fld (n := 3) rfl), (no_fld (n := 4) rfl), (no_fld (n := 5) rfl), (no_fld (n := 6) rfl), (no_fld (n := 7) rfl), (no_fld (n := 8) rfl), (no_fld (n := 9) rfl), (no_fld (n := 10) rfl), (no_fld (n := 11) rfl), (no_fld (n := 12) rfl), (no_fld (n := 13) rfl), (no_fld (n := 14) rfl), (no_fld (n := 15) rfl), (fun _ => ⟨⟨ye0_NoText, ye1_NoText, yb_NoText, yh_NoText⟩, no_NoText_line⟩), (no_fld (n := 17) rfl), (no_fld (n := 18) rfl), (no_fld (n := 19) rfl), (no_fld (n := 20) rfl), (no_fld (n := 21) rfl), trivial⟩,
    at_ ⟨(no_fld (n := 1) rfl), (no_fld (n := 2) rfl), (no_fld (n := 3) rfl), (no_fld (n := 4) rfl), (no_fld (n := 5) rfl), (no_fld (n := 6) rfl), (no_fld (n := 7) rfl), (no_fld (n := 8) rfl), (no_fld (n := 9) rfl), (no_fld (n := 10) rfl), (fun _ => ⟨⟨ye0_Broken, ye1_Broken, yb_Broken, yh_Broken⟩, no_Broken_number⟩), (no_fld (n := 12) rfl), (no_fld (n := 13) rfl), (no_fld (n := 14) rfl), (no_fld (n := 15) rfl), (no_fld (n := 16) rfl), (no_fld (n := 17) rfl), (no_fld (n := 18) rfl), (no_fld (n := 19) rfl), (no_fld (n := 20) rfl), (fun _ => ⟨⟨ye0_NoMoment, ye1_NoMoment, yb_NoMoment, yh_NoMoment⟩, no_NoMoment_number⟩), trivial⟩,
    at_ ⟨(fun _ => ⟨⟨ye0_BadWeb, ye1_BadWeb, yb_BadWeb, yh_BadWeb⟩, no_BadWeb_path⟩), (no_fld (n := 2) rfl), (no_fld (n := 3) rfl), (no_fld (n := 4) rfl), (no_fld (n := 5) rfl), (no_fld (n := 6) rfl), (no_fld (n := 7) rfl), (no_fld (n := 8) rfl), (no_fld (n := 9) rfl), (no_fld (n := 10) rfl), (no_fld (n := 11) rfl), (no_fld (n := 12) rfl), (no_fld (n := 13) rfl), (no_fld (n := 14) rfl), (no_fld (n := 15) rfl), (no_fld (n := 16) rfl), (no_fld (n := 17) rfl), (no_fld (n := 18) rfl), (no_fld (n := 19) rfl), (no_fld (n := 20) rfl), (no_fld (n := 21) rfl), trivial⟩,
    at_ ⟨(no_fld (n := 1) rfl), (no_fld (n := 2) rfl), (no_fld (n := 3) rfl), (no_fld (n := 4) rfl), (no_fld (n := 5) rfl), (no_fld (n := 6) rfl), (no_fld (n := 7) rfl), (no_fld (n := 8) rfl), (no_fld (n := 9) rfl), (no_fld (n := 10) rfl), (no_fld (n := 11) rfl), (no_fld (n := 12) rfl), (no_fld (n := 13) rfl), (no_fld (n := 14) rfl), (no_fld (n := 15) rfl), (no_fld (n := 16) rfl), (fun _ => ⟨⟨ye0_NoDoor, ye1_NoDoor, yb_NoDoor, yh_NoDoor⟩, no_NoDoor_road⟩), (fun _ => ⟨⟨ye0_NoRoad, ye1_NoRoad, yb_NoRoad, yh_NoRoad⟩, no_NoRoad_road⟩), (no_fld (n := 19) rfl), (no_fld (n := 20) rfl), (no_fld (n := 21) rfl), trivial⟩,
    at_ ⟨(no_fld (n := 1) rfl), (no_fld (n := 2) rfl), (no_fld (n := 3) rfl), (no_fld (n := 4) rfl), (no_fld (n := 5) rfl), (no_fld (n := 6) rfl), (no_fld (n := 7) rfl), (no_fld (n := 8) rfl), (no_fld (n := 9) rfl), (no_fld (n := 10) rfl), (no_fld (n := 11) rfl), (no_fld (n := 12) rfl), (no_fld (n := 13) rfl), (fun _ => ⟨⟨ye0_NoRoom, ye1_NoRoom, yb_NoRoom, yh_NoRoom⟩, no_NoRoom_room⟩), (no_fld (n := 15) rfl), (no_fld (n := 16) rfl), (no_fld (n := 17) rfl), (no_fld (n := 18) rfl), (no_fld (n := 19) rfl), (no_fld (n := 20) rfl), (no_fld (n := 21) rfl), trivial⟩,
    at_ ⟨(fun _ => ⟨⟨ye0_BadWeb, ye1_BadWeb, yb_BadWeb, yh_BadWeb⟩, no_BadWeb_word⟩), (no_fld (n := 2) rfl), (no_fld (n := 3) rfl), (no_fld (n := 4) rfl), (no_fld (n := 5) rfl), (no_fld (n := 6) rfl), (no_fld (n := 7) rfl), (no_fld (n := 8) rfl), (no_fld (n := 9) rfl), (no_fld (n := 10) rfl), (no_fld (n := 11) rfl), (no_fld (n := 12) rfl), (no_fld (n := 13) rfl), (no_fld (n := 14) rfl), (no_fld (n := 15) rfl), (no_fld (n := 16) rfl), (no_fld (n := 17) rfl), (no_fld (n := 18) rfl), (no_fld (n := 19) rfl), (no_fld (n := 20) rfl), (no_fld (n := 21) rfl), trivial⟩,
    yx_BadOrder,
    yk_BadOrder,
    yb_BadOrder,
    yt_BadOrder,
    yx_Busy,
    yk_Busy,
    yb_Busy,
    yt_Busy,
    yx_Full,
    yk_Full,
    yb_Full,
    yt_Full,
    yx_Held,
    yk_Held,
    yb_Held,
    yt_Held,
    yx_Last,
    yk_Last,
    yb_Last,
    yt_Last,
    yx_Long,
    yk_Long,
    yb_Long,
    yt_Long,
    yx_NoDeeds,
    yk_NoDeeds,
    yb_NoDeeds,
    yt_NoDeeds,
    yx_NoRoads,
    yk_NoRoads,
    yb_NoRoads,
    yt_NoRoads,
    yx_NothingBack,
    yk_NothingBack,
    yb_NothingBack,
    yt_NothingBack,
    yx_TooGreat,
    yk_TooGreat,
    yb_TooGreat,
    yt_TooGreat⟩
  have D0 : Dfn K mg "_law_deck" s__law_deck ["_law_script"] := dfn_mk X G a0 l0 c0 k0 bi0
  have D1 : Dfn K mg "_law_kinds" s__law_kinds ["_law_e"] := dfn_mk X G a1 l1 c1 k1 bi1
  have D2 : Dfn K mg "_law_made" s__law_made ["_law_odd_here", "_law_more"] := dfn_mk X G a2 l2 c2 k2 bi2
  have D3 : Dfn K mg "_law_next" s__law_next ["_law_deck_here", "_law_many"] := dfn_mk X G a3 l3 c3 k3 bi3
  have D4 : Dfn K mg "_law_odd" s__law_odd ["_law_deck_here"] := dfn_mk X G a4 l4 c4 k4 bi4
  refine ⟨kk, PySem.W.fnOf "law" "law" (defArgs s_law) (defBody s_law) (defScope s_law) .none kV5 dc5 pm5 an5 cd5 ct5, rfl, fun s v => .of_eq rfl, fun base _ _ => ?_⟩
  have V : HR l.prog w mg base (fun n => (([(0, C_WebError), (1, C_BadWeb), (2, C_TooGreat), (3, C_Full), (4, C_NoRoads), (5, C_BadOrder), (6, C_TooMany), (7, C_Long), (8, C_Busy), (9, C_NothingBack), (10, C_NoDeeds), (11, C_Broken), (12, C_Last), (13, C_Held), (14, C_NoRoom), (15, C_NoStream), (16, C_NoText), (17, C_NoDoor), (18, C_NoRoad), (19, C_NoHouse), (20, C_NoEnd), (21, C_NoMoment)] : List (Nat × Addr)).lookup n).getD 0) := ⟨init_ok2 (st := s_initBadWeb) (PySem.W.mg_of X G y_BadWeb) vl_BadWeb vo_BadWeb vs_BadWeb yb_BadWeb yt_BadWeb yk_BadWeb vi_BadWeb vt_BadWeb no_BadWeb_path no_BadWeb_word vf_BadWeb vc_BadWeb fnScope_BadWeb bi_BadWeb (fun A outer s H E => pss_cons (ps_ost (pv 0) (pv 1)) (pss_one (ps_ost (pv 0) (pv 2)))),
    init_ok (st := s_initTooMany) (PySem.W.mg_of X G y_TooMany) vl_TooMany vo_TooMany vs_TooMany yb_TooMany yt_TooMany yk_TooMany vi_TooMany vt_TooMany no_TooMany_bound vf_TooMany vc_TooMany fnScope_TooMany bi_TooMany (fun A outer s H E => pss_one (ps_ost (pv 0) (pv 1))),
    init_ok (st := s_initBroken) (PySem.W.mg_of X G y_Broken) vl_Broken vo_Broken vs_Broken yb_Broken yt_Broken yk_Broken vi_Broken vt_Broken no_Broken_number vf_Broken vc_Broken fnScope_Broken bi_Broken (fun A outer s H E => pss_one (ps_ost (pv 0) (pv 1))),
    init_ok (st := s_initNoRoom) (PySem.W.mg_of X G y_NoRoom) vl_NoRoom vo_NoRoom vs_NoRoom yb_NoRoom yt_NoRoom yk_NoRoom vi_NoRoom vt_NoRoom no_NoRoom_room vf_NoRoom vc_NoRoom fnScope_NoRoom bi_NoRoom (fun A outer s H E => pss_one (ps_ost (pv 0) (pv 1))),
    init_ok (st := s_initNoStream) (PySem.W.mg_of X G y_NoStream) vl_NoStream vo_NoStream vs_NoStream yb_NoStream yt_NoStream yk_NoStream vi_NoStream vt_NoStream no_NoStream_fault vf_NoStream vc_NoStream fnScope_NoStream bi_NoStream (fun A outer s H E => pss_one (ps_ost (pv 0) (pv 1))),
    init_ok (st := s_initNoText) (PySem.W.mg_of X G y_NoText) vl_NoText vo_NoText vs_NoText yb_NoText yt_NoText yk_NoText vi_NoText vt_NoText no_NoText_line vf_NoText vc_NoText fnScope_NoText bi_NoText (fun A outer s H E => pss_one (ps_ost (pv 0) (pv 1))),
    init_okL (st := s_initNoDoor) (PySem.W.mg_of X G y_NoDoor) vl_NoDoor vo_NoDoor vs_NoDoor yb_NoDoor yt_NoDoor yk_NoDoor vi_NoDoor vt_NoDoor no_NoDoor_road vf_NoDoor vc_NoDoor fnScope_NoDoor bi_NoDoor (fun A outer s H E => pss_one (ps_ostL (pv 0) (pv 1))),
    init_okL (st := s_initNoRoad) (PySem.W.mg_of X G y_NoRoad) vl_NoRoad vo_NoRoad vs_NoRoad yb_NoRoad yt_NoRoad yk_NoRoad vi_NoRoad vt_NoRoad no_NoRoad_road vf_NoRoad vc_NoRoad fnScope_NoRoad bi_NoRoad (fun A outer s H E => pss_one (ps_ostL (pv 0) (pv 1))),
    init_okL (st := s_initNoHouse) (PySem.W.mg_of X G y_NoHouse) vl_NoHouse vo_NoHouse vs_NoHouse yb_NoHouse yt_NoHouse yk_NoHouse vi_NoHouse vt_NoHouse no_NoHouse_house vf_NoHouse vc_NoHouse fnScope_NoHouse bi_NoHouse (fun A outer s H E => pss_one (ps_ostL (pv 0) (pv 1))),
    init_okL (st := s_initNoEnd) (PySem.W.mg_of X G y_NoEnd) vl_NoEnd vo_NoEnd vs_NoEnd yb_NoEnd yt_NoEnd yk_NoEnd vi_NoEnd vt_NoEnd no_NoEnd_end vf_NoEnd vc_NoEnd fnScope_NoEnd bi_NoEnd (fun A outer s H E => pss_one (ps_ostL (pv 0) (pv 1))),
    init_okL (st := s_initNoMoment) (PySem.W.mg_of X G y_NoMoment) vl_NoMoment vo_NoMoment vs_NoMoment yb_NoMoment yt_NoMoment yk_NoMoment vi_NoMoment vt_NoMoment no_NoMoment_number vf_NoMoment vc_NoMoment fnScope_NoMoment bi_NoMoment (fun A outer s H E => pss_one (ps_ostL (pv 0) (pv 1)))⟩
  have C__law_deck := c__law_deck (P := l.prog) (w := w) (base := base) D0 B 
  have C__law_kinds := c__law_kinds (P := l.prog) (w := w) (base := base) (cA := (fun n => (([(0, C_WebError), (1, C_BadWeb), (2, C_TooGreat), (3, C_Full), (4, C_NoRoads), (5, C_BadOrder), (6, C_TooMany), (7, C_Long), (8, C_Busy), (9, C_NothingBack), (10, C_NoDeeds), (11, C_Broken), (12, C_Last), (13, C_Held), (14, C_NoRoom), (15, C_NoStream), (16, C_NoText), (17, C_NoDoor), (18, C_NoRoad), (19, C_NoHouse), (20, C_NoEnd), (21, C_NoMoment)] : List (Nat × Addr)).lookup n).getD 0)) (dA := 0) D1 B Z V
  have C__law_made := c__law_made (P := l.prog) (w := w) (base := base) (cA := (fun n => (([(0, C_WebError), (1, C_BadWeb), (2, C_TooGreat), (3, C_Full), (4, C_NoRoads), (5, C_BadOrder), (6, C_TooMany), (7, C_Long), (8, C_Busy), (9, C_NothingBack), (10, C_NoDeeds), (11, C_Broken), (12, C_Last), (13, C_Held), (14, C_NoRoom), (15, C_NoStream), (16, C_NoText), (17, C_NoDoor), (18, C_NoRoad), (19, C_NoHouse), (20, C_NoEnd), (21, C_NoMoment)] : List (Nat × Addr)).lookup n).getD 0)) (dA := 0) D2 B Z V
  have C__law_next := c__law_next (P := l.prog) (w := w) (base := base) D3 B 
  have C__law_odd := c__law_odd (P := l.prog) (w := w) (base := base) D4 B C__law_next
  exact ok_law (fun_mk (st := s_law) l5 c5 k5) B Z V (PySem.W.mg_of X G v_BATCH) (PySem.W.mg_of X G v_DEEDS) (PySem.W.mg_of X G v_FAR) (PySem.W.mg_of X G v_GREAT) (PySem.W.mg_of X G v_HOUSES) (PySem.W.mg_of X G v_ROADS) (PySem.W.mg_of X G v_SEATS) (PySem.W.mg_of X G v_SMALL) (PySem.W.mg_of X G v_TIES) C__law_deck C__law_kinds C__law_made C__law_odd
end Row
open PySem PySem.W PyProof.Rows
set_option maxHeartbeats 0 in
theorem PySem.Challenge.cw_unturned_k09_refusals_and_bounds_holds : PySem.Challenge.rw_unturned_k09_refusals_and_bounds.Holds := by
  w_on; o_law; k_head; (case hw => w_witness2)
  k_fill
  refine Uv.walk_vK (l := PySem.Challenge.rw_unturned_k09_refusals_and_bounds) (n := 63) (k := 4) (x := "_law_script") (f := Fn.F_law_z197) rfl (by decide) rfl ⟨rfl, by decide, by decide⟩ (fun w h Y => PySem.W.kIn_of Y) ?F Fn.k09
  case F =>
    intro w mg fa h KX G hmg
    refine' Row.all_mk KX G hmg ?a0 ?l0 ?c0 ?k0 ?a1 ?l1 ?c1 ?k1 ?a2 ?l2 ?c2 ?k2 ?a3 ?l3 ?c3 ?k3 ?a4 ?l4 ?c4 ?k4 ?a5 ?l5 ?c5 ?k5 ?v_BATCH ?v_DEEDS ?v_FAR ?v_GREAT ?v_HOUSES ?v_ROADS ?v_SEATS ?v_SMALL ?v_TIES ?z_LookupError ?z_ValueError ?z_abs ?z_enumerate ?z_isinstance ?z_len ?z_range ?z_repr ?y_WebError ?y_BadWeb ?y_TooGreat ?y_Full ?y_NoRoads ?y_BadOrder ?y_TooMany ?y_Long ?y_Busy ?y_NothingBack ?y_NoDeeds ?y_Broken ?y_Last ?y_Held ?y_NoRoom ?y_NoStream ?y_NoText ?y_NoDoor ?y_NoRoad ?y_NoHouse ?y_NoEnd ?y_NoMoment ?yt_BadOrder ?yh_BadOrder ?yt_BadWeb ?yh_BadWeb ?yt_Broken ?yh_Broken ?yt_Busy ?yh_Busy ?yt_Full ?yh_Full ?yt_Held ?yh_Held ?yt_Last ?yh_Last ?yt_Long ?yh_Long ?yt_NoDeeds ?yh_NoDeeds ?yt_NoDoor ?yh_NoDoor ?yt_NoEnd ?yh_NoEnd ?yt_NoHouse ?yh_NoHouse ?yt_NoMoment ?yh_NoMoment ?yt_NoRoad ?yh_NoRoad ?yt_NoRoads ?yh_NoRoads ?yt_NoRoom ?yh_NoRoom ?yt_NoStream ?yh_NoStream ?yt_NoText ?yh_NoText ?yt_NothingBack ?yh_NothingBack ?yt_TooGreat ?yh_TooGreat ?yt_TooMany ?yh_TooMany ?yt_WebError ?yh_WebError ?ye3 ?ye4 ?yb_BadWeb ?ye0_BadWeb ?ye1_BadWeb ?ye2_BadWeb ?ye5_BadWeb ?s_BadWeb_BadOrder ?s_BadWeb_BadWeb ?s_BadWeb_Broken ?s_BadWeb_Busy ?s_BadWeb_Full ?s_BadWeb_Held ?s_BadWeb_Last ?s_BadWeb_Long ?s_BadWeb_LookupError ?s_BadWeb_NoDeeds ?s_BadWeb_NoDoor ?s_BadWeb_NoEnd ?s_BadWeb_NoHouse ?s_BadWeb_NoMoment ?s_BadWeb_NoRoad ?s_BadWeb_NoRoads ?s_BadWeb_NoRoom ?s_BadWeb_NoStream ?s_BadWeb_NoText ?s_BadWeb_NothingBack ?s_BadWeb_TooGreat ?s_BadWeb_TooMany ?s_BadWeb_ValueError ?s_BadWeb_WebError ?no_BadWeb_path ?no_BadWeb_word ?yk_BadWeb ?vl_BadWeb ?vo_BadWeb ?vs_BadWeb ?vi_BadWeb ?vt_BadWeb ?vf_BadWeb ?vc_BadWeb ?yb_TooGreat ?ye0_TooGreat ?ye1_TooGreat ?ye2_TooGreat ?ye5_TooGreat ?s_TooGreat_BadOrder ?s_TooGreat_BadWeb ?s_TooGreat_Broken ?s_TooGreat_Busy ?s_TooGreat_Full ?s_TooGreat_Held ?s_TooGreat_Last ?s_TooGreat_Long ?s_TooGreat_LookupError ?s_TooGreat_NoDeeds ?s_TooGreat_NoDoor ?s_TooGreat_NoEnd ?s_TooGreat_NoHouse ?s_TooGreat_NoMoment ?s_TooGreat_NoRoad ?s_TooGreat_NoRoads ?s_TooGreat_NoRoom ?s_TooGreat_NoStream ?s_TooGreat_NoText ?s_TooGreat_NothingBack ?s_TooGreat_TooGreat ?s_TooGreat_TooMany ?s_TooGreat_ValueError ?s_TooGreat_WebError ?yk_TooGreat ?yx_TooGreat ?yb_Full ?ye0_Full ?ye1_Full ?ye2_Full ?ye5_Full ?s_Full_BadOrder ?s_Full_BadWeb ?s_Full_Broken ?s_Full_Busy ?s_Full_Full ?s_Full_Held ?s_Full_Last ?s_Full_Long ?s_Full_LookupError ?s_Full_NoDeeds ?s_Full_NoDoor ?s_Full_NoEnd ?s_Full_NoHouse ?s_Full_NoMoment ?s_Full_NoRoad ?s_Full_NoRoads ?s_Full_NoRoom ?s_Full_NoStream ?s_Full_NoText ?s_Full_NothingBack ?s_Full_TooGreat ?s_Full_TooMany ?s_Full_ValueError ?s_Full_WebError ?yk_Full ?yx_Full ?yb_NoRoads ?ye0_NoRoads ?ye1_NoRoads ?ye2_NoRoads ?ye5_NoRoads ?s_NoRoads_BadOrder ?s_NoRoads_BadWeb ?s_NoRoads_Broken ?s_NoRoads_Busy ?s_NoRoads_Full ?s_NoRoads_Held ?s_NoRoads_Last ?s_NoRoads_Long ?s_NoRoads_LookupError ?s_NoRoads_NoDeeds ?s_NoRoads_NoDoor ?s_NoRoads_NoEnd ?s_NoRoads_NoHouse ?s_NoRoads_NoMoment ?s_NoRoads_NoRoad ?s_NoRoads_NoRoads ?s_NoRoads_NoRoom ?s_NoRoads_NoStream ?s_NoRoads_NoText ?s_NoRoads_NothingBack ?s_NoRoads_TooGreat ?s_NoRoads_TooMany ?s_NoRoads_ValueError ?s_NoRoads_WebError ?yk_NoRoads ?yx_NoRoads ?yb_BadOrder ?ye0_BadOrder ?ye1_BadOrder ?ye2_BadOrder ?ye5_BadOrder ?s_BadOrder_BadOrder ?s_BadOrder_BadWeb ?s_BadOrder_Broken ?s_BadOrder_Busy ?s_BadOrder_Full ?s_BadOrder_Held ?s_BadOrder_Last ?s_BadOrder_Long ?s_BadOrder_LookupError ?s_BadOrder_NoDeeds ?s_BadOrder_NoDoor ?s_BadOrder_NoEnd ?s_BadOrder_NoHouse ?s_BadOrder_NoMoment ?s_BadOrder_NoRoad ?s_BadOrder_NoRoads ?s_BadOrder_NoRoom ?s_BadOrder_NoStream ?s_BadOrder_NoText ?s_BadOrder_NothingBack ?s_BadOrder_TooGreat ?s_BadOrder_TooMany ?s_BadOrder_ValueError ?s_BadOrder_WebError ?yk_BadOrder ?yx_BadOrder ?yb_TooMany ?ye0_TooMany ?ye1_TooMany ?ye2_TooMany ?ye5_TooMany ?s_TooMany_BadOrder ?s_TooMany_BadWeb ?s_TooMany_Broken ?s_TooMany_Busy ?s_TooMany_Full ?s_TooMany_Held ?s_TooMany_Last ?s_TooMany_Long ?s_TooMany_LookupError ?s_TooMany_NoDeeds ?s_TooMany_NoDoor ?s_TooMany_NoEnd ?s_TooMany_NoHouse ?s_TooMany_NoMoment ?s_TooMany_NoRoad ?s_TooMany_NoRoads ?s_TooMany_NoRoom ?s_TooMany_NoStream ?s_TooMany_NoText ?s_TooMany_NothingBack ?s_TooMany_TooGreat ?s_TooMany_TooMany ?s_TooMany_ValueError ?s_TooMany_WebError ?no_TooMany_bound ?yk_TooMany ?vl_TooMany ?vo_TooMany ?vs_TooMany ?vi_TooMany ?vt_TooMany ?vf_TooMany ?vc_TooMany ?yb_Long ?ye0_Long ?ye1_Long ?ye2_Long ?ye5_Long ?s_Long_BadOrder ?s_Long_BadWeb ?s_Long_Broken ?s_Long_Busy ?s_Long_Full ?s_Long_Held ?s_Long_Last ?s_Long_Long ?s_Long_LookupError ?s_Long_NoDeeds ?s_Long_NoDoor ?s_Long_NoEnd ?s_Long_NoHouse ?s_Long_NoMoment ?s_Long_NoRoad ?s_Long_NoRoads ?s_Long_NoRoom ?s_Long_NoStream ?s_Long_NoText ?s_Long_NothingBack ?s_Long_TooGreat ?s_Long_TooMany ?s_Long_ValueError ?s_Long_WebError ?yk_Long ?yx_Long ?yb_Busy ?ye0_Busy ?ye1_Busy ?ye2_Busy ?ye5_Busy ?s_Busy_BadOrder ?s_Busy_BadWeb ?s_Busy_Broken ?s_Busy_Busy ?s_Busy_Full ?s_Busy_Held ?s_Busy_Last ?s_Busy_Long ?s_Busy_LookupError ?s_Busy_NoDeeds ?s_Busy_NoDoor ?s_Busy_NoEnd ?s_Busy_NoHouse ?s_Busy_NoMoment ?s_Busy_NoRoad ?s_Busy_NoRoads ?s_Busy_NoRoom ?s_Busy_NoStream ?s_Busy_NoText ?s_Busy_NothingBack ?s_Busy_TooGreat ?s_Busy_TooMany ?s_Busy_ValueError ?s_Busy_WebError ?yk_Busy ?yx_Busy ?yb_NothingBack ?ye0_NothingBack ?ye1_NothingBack ?ye2_NothingBack ?ye5_NothingBack ?s_NothingBack_BadOrder ?s_NothingBack_BadWeb ?s_NothingBack_Broken ?s_NothingBack_Busy ?s_NothingBack_Full ?s_NothingBack_Held ?s_NothingBack_Last ?s_NothingBack_Long ?s_NothingBack_LookupError ?s_NothingBack_NoDeeds ?s_NothingBack_NoDoor ?s_NothingBack_NoEnd ?s_NothingBack_NoHouse ?s_NothingBack_NoMoment ?s_NothingBack_NoRoad ?s_NothingBack_NoRoads ?s_NothingBack_NoRoom ?s_NothingBack_NoStream ?s_NothingBack_NoText ?s_NothingBack_NothingBack ?s_NothingBack_TooGreat ?s_NothingBack_TooMany ?s_NothingBack_ValueError ?s_NothingBack_WebError ?yk_NothingBack ?yx_NothingBack ?yb_NoDeeds ?ye0_NoDeeds ?ye1_NoDeeds ?ye2_NoDeeds ?ye5_NoDeeds ?s_NoDeeds_BadOrder ?s_NoDeeds_BadWeb ?s_NoDeeds_Broken ?s_NoDeeds_Busy ?s_NoDeeds_Full ?s_NoDeeds_Held ?s_NoDeeds_Last ?s_NoDeeds_Long ?s_NoDeeds_LookupError ?s_NoDeeds_NoDeeds ?s_NoDeeds_NoDoor ?s_NoDeeds_NoEnd ?s_NoDeeds_NoHouse ?s_NoDeeds_NoMoment ?s_NoDeeds_NoRoad ?s_NoDeeds_NoRoads ?s_NoDeeds_NoRoom ?s_NoDeeds_NoStream ?s_NoDeeds_NoText ?s_NoDeeds_NothingBack ?s_NoDeeds_TooGreat ?s_NoDeeds_TooMany ?s_NoDeeds_ValueError ?s_NoDeeds_WebError ?yk_NoDeeds ?yx_NoDeeds ?yb_Broken ?ye0_Broken ?ye1_Broken ?ye2_Broken ?ye5_Broken ?s_Broken_BadOrder ?s_Broken_BadWeb ?s_Broken_Broken ?s_Broken_Busy ?s_Broken_Full ?s_Broken_Held ?s_Broken_Last ?s_Broken_Long ?s_Broken_LookupError ?s_Broken_NoDeeds ?s_Broken_NoDoor ?s_Broken_NoEnd ?s_Broken_NoHouse ?s_Broken_NoMoment ?s_Broken_NoRoad ?s_Broken_NoRoads ?s_Broken_NoRoom ?s_Broken_NoStream ?s_Broken_NoText ?s_Broken_NothingBack ?s_Broken_TooGreat ?s_Broken_TooMany ?s_Broken_ValueError ?s_Broken_WebError ?no_Broken_number ?yk_Broken ?vl_Broken ?vo_Broken ?vs_Broken ?vi_Broken ?vt_Broken ?vf_Broken ?vc_Broken ?yb_Last ?ye0_Last ?ye1_Last ?ye2_Last ?ye5_Last ?s_Last_BadOrder ?s_Last_BadWeb ?s_Last_Broken ?s_Last_Busy ?s_Last_Full ?s_Last_Held ?s_Last_Last ?s_Last_Long ?s_Last_LookupError ?s_Last_NoDeeds ?s_Last_NoDoor ?s_Last_NoEnd ?s_Last_NoHouse ?s_Last_NoMoment ?s_Last_NoRoad ?s_Last_NoRoads ?s_Last_NoRoom ?s_Last_NoStream ?s_Last_NoText ?s_Last_NothingBack ?s_Last_TooGreat ?s_Last_TooMany ?s_Last_ValueError ?s_Last_WebError ?yk_Last ?yx_Last ?yb_Held ?ye0_Held ?ye1_Held ?ye2_Held ?ye5_Held ?s_Held_BadOrder ?s_Held_BadWeb ?s_Held_Broken ?s_Held_Busy ?s_Held_Full ?s_Held_Held ?s_Held_Last ?s_Held_Long ?s_Held_LookupError ?s_Held_NoDeeds ?s_Held_NoDoor ?s_Held_NoEnd ?s_Held_NoHouse ?s_Held_NoMoment ?s_Held_NoRoad ?s_Held_NoRoads ?s_Held_NoRoom ?s_Held_NoStream ?s_Held_NoText ?s_Held_NothingBack ?s_Held_TooGreat ?s_Held_TooMany ?s_Held_ValueError ?s_Held_WebError ?yk_Held ?yx_Held ?yb_NoRoom ?ye0_NoRoom ?ye1_NoRoom ?ye2_NoRoom ?ye5_NoRoom ?s_NoRoom_BadOrder ?s_NoRoom_BadWeb ?s_NoRoom_Broken ?s_NoRoom_Busy ?s_NoRoom_Full ?s_NoRoom_Held ?s_NoRoom_Last ?s_NoRoom_Long ?s_NoRoom_LookupError ?s_NoRoom_NoDeeds ?s_NoRoom_NoDoor ?s_NoRoom_NoEnd ?s_NoRoom_NoHouse ?s_NoRoom_NoMoment ?s_NoRoom_NoRoad ?s_NoRoom_NoRoads ?s_NoRoom_NoRoom ?s_NoRoom_NoStream ?s_NoRoom_NoText ?s_NoRoom_NothingBack ?s_NoRoom_TooGreat ?s_NoRoom_TooMany ?s_NoRoom_ValueError ?s_NoRoom_WebError ?no_NoRoom_room ?yk_NoRoom ?vl_NoRoom ?vo_NoRoom ?vs_NoRoom ?vi_NoRoom ?vt_NoRoom ?vf_NoRoom ?vc_NoRoom ?yb_NoStream ?ye0_NoStream ?ye1_NoStream ?ye2_NoStream ?ye5_NoStream ?s_NoStream_BadOrder ?s_NoStream_BadWeb ?s_NoStream_Broken ?s_NoStream_Busy ?s_NoStream_Full ?s_NoStream_Held ?s_NoStream_Last ?s_NoStream_Long ?s_NoStream_LookupError ?s_NoStream_NoDeeds ?s_NoStream_NoDoor ?s_NoStream_NoEnd ?s_NoStream_NoHouse ?s_NoStream_NoMoment ?s_NoStream_NoRoad ?s_NoStream_NoRoads ?s_NoStream_NoRoom ?s_NoStream_NoStream ?s_NoStream_NoText ?s_NoStream_NothingBack ?s_NoStream_TooGreat ?s_NoStream_TooMany ?s_NoStream_ValueError ?s_NoStream_WebError ?no_NoStream_fault ?yk_NoStream ?vl_NoStream ?vo_NoStream ?vs_NoStream ?vi_NoStream ?vt_NoStream ?vf_NoStream ?vc_NoStream ?yb_NoText ?ye0_NoText ?ye1_NoText ?ye2_NoText ?ye5_NoText ?s_NoText_BadOrder ?s_NoText_BadWeb ?s_NoText_Broken ?s_NoText_Busy ?s_NoText_Full ?s_NoText_Held ?s_NoText_Last ?s_NoText_Long ?s_NoText_LookupError ?s_NoText_NoDeeds ?s_NoText_NoDoor ?s_NoText_NoEnd ?s_NoText_NoHouse ?s_NoText_NoMoment ?s_NoText_NoRoad ?s_NoText_NoRoads ?s_NoText_NoRoom ?s_NoText_NoStream ?s_NoText_NoText ?s_NoText_NothingBack ?s_NoText_TooGreat ?s_NoText_TooMany ?s_NoText_ValueError ?s_NoText_WebError ?no_NoText_line ?yk_NoText ?vl_NoText ?vo_NoText ?vs_NoText ?vi_NoText ?vt_NoText ?vf_NoText ?vc_NoText ?yb_NoDoor ?ye0_NoDoor ?ye1_NoDoor ?ye2_NoDoor ?ye5_NoDoor ?s_NoDoor_BadOrder ?s_NoDoor_BadWeb ?s_NoDoor_Broken ?s_NoDoor_Busy ?s_NoDoor_Full ?s_NoDoor_Held ?s_NoDoor_Last ?s_NoDoor_Long ?s_NoDoor_LookupError ?s_NoDoor_NoDeeds ?s_NoDoor_NoDoor ?s_NoDoor_NoEnd ?s_NoDoor_NoHouse ?s_NoDoor_NoMoment ?s_NoDoor_NoRoad ?s_NoDoor_NoRoads ?s_NoDoor_NoRoom ?s_NoDoor_NoStream ?s_NoDoor_NoText ?s_NoDoor_NothingBack ?s_NoDoor_TooGreat ?s_NoDoor_TooMany ?s_NoDoor_ValueError ?s_NoDoor_WebError ?no_NoDoor_road ?yk_NoDoor ?vl_NoDoor ?vo_NoDoor ?vs_NoDoor ?vi_NoDoor ?vt_NoDoor ?vf_NoDoor ?vc_NoDoor ?yb_NoRoad ?ye0_NoRoad ?ye1_NoRoad ?ye2_NoRoad ?ye5_NoRoad ?s_NoRoad_BadOrder ?s_NoRoad_BadWeb ?s_NoRoad_Broken ?s_NoRoad_Busy ?s_NoRoad_Full ?s_NoRoad_Held ?s_NoRoad_Last ?s_NoRoad_Long ?s_NoRoad_LookupError ?s_NoRoad_NoDeeds ?s_NoRoad_NoDoor ?s_NoRoad_NoEnd ?s_NoRoad_NoHouse ?s_NoRoad_NoMoment ?s_NoRoad_NoRoad ?s_NoRoad_NoRoads ?s_NoRoad_NoRoom ?s_NoRoad_NoStream ?s_NoRoad_NoText ?s_NoRoad_NothingBack ?s_NoRoad_TooGreat ?s_NoRoad_TooMany ?s_NoRoad_ValueError ?s_NoRoad_WebError ?no_NoRoad_road ?yk_NoRoad ?vl_NoRoad ?vo_NoRoad ?vs_NoRoad ?vi_NoRoad ?vt_NoRoad ?vf_NoRoad ?vc_NoRoad ?yb_NoHouse ?ye0_NoHouse ?ye1_NoHouse ?ye2_NoHouse ?ye5_NoHouse ?s_NoHouse_BadOrder ?s_NoHouse_BadWeb ?s_NoHouse_Broken ?s_NoHouse_Busy ?s_NoHouse_Full ?s_NoHouse_Held ?s_NoHouse_Last ?s_NoHouse_Long ?s_NoHouse_LookupError ?s_NoHouse_NoDeeds ?s_NoHouse_NoDoor ?s_NoHouse_NoEnd ?s_NoHouse_NoHouse ?s_NoHouse_NoMoment ?s_NoHouse_NoRoad ?s_NoHouse_NoRoads ?s_NoHouse_NoRoom ?s_NoHouse_NoStream ?s_NoHouse_NoText ?s_NoHouse_NothingBack ?s_NoHouse_TooGreat ?s_NoHouse_TooMany ?s_NoHouse_ValueError ?s_NoHouse_WebError ?no_NoHouse_house ?yk_NoHouse ?vl_NoHouse ?vo_NoHouse ?vs_NoHouse ?vi_NoHouse ?vt_NoHouse ?vf_NoHouse ?vc_NoHouse ?yb_NoEnd ?ye0_NoEnd ?ye1_NoEnd ?ye2_NoEnd ?ye5_NoEnd ?s_NoEnd_BadOrder ?s_NoEnd_BadWeb ?s_NoEnd_Broken ?s_NoEnd_Busy ?s_NoEnd_Full ?s_NoEnd_Held ?s_NoEnd_Last ?s_NoEnd_Long ?s_NoEnd_LookupError ?s_NoEnd_NoDeeds ?s_NoEnd_NoDoor ?s_NoEnd_NoEnd ?s_NoEnd_NoHouse ?s_NoEnd_NoMoment ?s_NoEnd_NoRoad ?s_NoEnd_NoRoads ?s_NoEnd_NoRoom ?s_NoEnd_NoStream ?s_NoEnd_NoText ?s_NoEnd_NothingBack ?s_NoEnd_TooGreat ?s_NoEnd_TooMany ?s_NoEnd_ValueError ?s_NoEnd_WebError ?no_NoEnd_end ?yk_NoEnd ?vl_NoEnd ?vo_NoEnd ?vs_NoEnd ?vi_NoEnd ?vt_NoEnd ?vf_NoEnd ?vc_NoEnd ?yb_NoMoment ?ye0_NoMoment ?ye1_NoMoment ?ye2_NoMoment ?ye5_NoMoment ?s_NoMoment_BadOrder ?s_NoMoment_BadWeb ?s_NoMoment_Broken ?s_NoMoment_Busy ?s_NoMoment_Full ?s_NoMoment_Held ?s_NoMoment_Last ?s_NoMoment_Long ?s_NoMoment_LookupError ?s_NoMoment_NoDeeds ?s_NoMoment_NoDoor ?s_NoMoment_NoEnd ?s_NoMoment_NoHouse ?s_NoMoment_NoMoment ?s_NoMoment_NoRoad ?s_NoMoment_NoRoads ?s_NoMoment_NoRoom ?s_NoMoment_NoStream ?s_NoMoment_NoText ?s_NoMoment_NothingBack ?s_NoMoment_TooGreat ?s_NoMoment_TooMany ?s_NoMoment_ValueError ?s_NoMoment_WebError ?no_NoMoment_number ?yk_NoMoment ?vl_NoMoment ?vo_NoMoment ?vs_NoMoment ?vi_NoMoment ?vt_NoMoment ?vf_NoMoment ?vc_NoMoment
    (case a0 => k_is); (case l0 => k_is); (case c0 => k_is); (case k0 => k_is); (case a1 => k_is); (case l1 => k_is); (case c1 => k_is); (case k1 => k_is); (case a2 => k_is); (case l2 => k_is); (case c2 => k_is); (case k2 => k_is); (case a3 => k_is); (case l3 => k_is); (case c3 => k_is); (case k3 => k_is); (case a4 => k_is); (case l4 => k_is); (case c4 => k_is); (case k4 => k_is); (case a5 => k_is); (case l5 => k_is); (case c5 => k_is); (case k5 => k_is); (case v_BATCH => k_is); (case v_DEEDS => k_is); (case v_FAR => k_is); (case v_GREAT => k_is); (case v_HOUSES => k_is); (case v_ROADS => k_is); (case v_SEATS => k_is); (case v_SMALL => k_is); (case v_TIES => k_is); (case z_LookupError => k_is); (case z_ValueError => k_is); (case z_abs => k_is); (case z_enumerate => k_is); (case z_isinstance => k_is); (case z_len => k_is); (case z_range => k_is); (case z_repr => k_is); (case y_WebError => k_is); (case y_BadWeb => k_is); (case y_TooGreat => k_is); (case y_Full => k_is); (case y_NoRoads => k_is); (case y_BadOrder => k_is); (case y_TooMany => k_is); (case y_Long => k_is); (case y_Busy => k_is); (case y_NothingBack => k_is); (case y_NoDeeds => k_is); (case y_Broken => k_is); (case y_Last => k_is); (case y_Held => k_is); (case y_NoRoom => k_is); (case y_NoStream => k_is); (case y_NoText => k_is); (case y_NoDoor => k_is); (case y_NoRoad => k_is); (case y_NoHouse => k_is); (case y_NoEnd => k_is); (case y_NoMoment => k_is); (case yt_BadOrder => k_is); (case yh_BadOrder => k_is); (case yt_BadWeb => k_is); (case yh_BadWeb => k_is); (case yt_Broken => k_is); (case yh_Broken => k_is); (case yt_Busy => k_is); (case yh_Busy => k_is); (case yt_Full => k_is); (case yh_Full => k_is); (case yt_Held => k_is); (case yh_Held => k_is); (case yt_Last => k_is); (case yh_Last => k_is); (case yt_Long => k_is); (case yh_Long => k_is); (case yt_NoDeeds => k_is); (case yh_NoDeeds => k_is); (case yt_NoDoor => k_is); (case yh_NoDoor => k_is); (case yt_NoEnd => k_is); (case yh_NoEnd => k_is); (case yt_NoHouse => k_is); (case yh_NoHouse => k_is); (case yt_NoMoment => k_is); (case yh_NoMoment => k_is); (case yt_NoRoad => k_is); (case yh_NoRoad => k_is); (case yt_NoRoads => k_is); (case yh_NoRoads => k_is); (case yt_NoRoom => k_is); (case yh_NoRoom => k_is); (case yt_NoStream => k_is); (case yh_NoStream => k_is); (case yt_NoText => k_is); (case yh_NoText => k_is); (case yt_NothingBack => k_is); (case yh_NothingBack => k_is); (case yt_TooGreat => k_is); (case yh_TooGreat => k_is); (case yt_TooMany => k_is); (case yh_TooMany => k_is); (case yt_WebError => k_is); (case yh_WebError => k_is); (case ye3 => k_is); (case ye4 => k_is); (case yb_BadWeb => k_is); (case ye0_BadWeb => k_is); (case ye1_BadWeb => k_is); (case ye2_BadWeb => k_is); (case ye5_BadWeb => k_is); (case s_BadWeb_BadOrder => k_is); (case s_BadWeb_BadWeb => k_is); (case s_BadWeb_Broken => k_is); (case s_BadWeb_Busy => k_is); (case s_BadWeb_Full => k_is); (case s_BadWeb_Held => k_is); (case s_BadWeb_Last => k_is); (case s_BadWeb_Long => k_is); (case s_BadWeb_LookupError => k_is); (case s_BadWeb_NoDeeds => k_is); (case s_BadWeb_NoDoor => k_is); (case s_BadWeb_NoEnd => k_is); (case s_BadWeb_NoHouse => k_is); (case s_BadWeb_NoMoment => k_is); (case s_BadWeb_NoRoad => k_is); (case s_BadWeb_NoRoads => k_is); (case s_BadWeb_NoRoom => k_is); (case s_BadWeb_NoStream => k_is); (case s_BadWeb_NoText => k_is); (case s_BadWeb_NothingBack => k_is); (case s_BadWeb_TooGreat => k_is); (case s_BadWeb_TooMany => k_is); (case s_BadWeb_ValueError => k_is); (case s_BadWeb_WebError => k_is); (case no_BadWeb_path => k_is); (case no_BadWeb_word => k_is); (case yk_BadWeb => k_is); (case vl_BadWeb => k_is); (case vo_BadWeb => rfl); (case vs_BadWeb => k_is); (case vi_BadWeb => k_is); (case vt_BadWeb => k_is); (case vf_BadWeb => k_is); (case vc_BadWeb => k_is); (case yb_TooGreat => k_is); (case ye0_TooGreat => k_is); (case ye1_TooGreat => k_is); (case ye2_TooGreat => k_is); (case ye5_TooGreat => k_is); (case s_TooGreat_BadOrder => k_is); (case s_TooGreat_BadWeb => k_is); (case s_TooGreat_Broken => k_is); (case s_TooGreat_Busy => k_is); (case s_TooGreat_Full => k_is); (case s_TooGreat_Held => k_is); (case s_TooGreat_Last => k_is); (case s_TooGreat_Long => k_is); (case s_TooGreat_LookupError => k_is); (case s_TooGreat_NoDeeds => k_is); (case s_TooGreat_NoDoor => k_is); (case s_TooGreat_NoEnd => k_is); (case s_TooGreat_NoHouse => k_is); (case s_TooGreat_NoMoment => k_is); (case s_TooGreat_NoRoad => k_is); (case s_TooGreat_NoRoads => k_is); (case s_TooGreat_NoRoom => k_is); (case s_TooGreat_NoStream => k_is); (case s_TooGreat_NoText => k_is); (case s_TooGreat_NothingBack => k_is); (case s_TooGreat_TooGreat => k_is); (case s_TooGreat_TooMany => k_is); (case s_TooGreat_ValueError => k_is); (case s_TooGreat_WebError => k_is); (case yk_TooGreat => k_is); (case yx_TooGreat => k_exc); (case yb_Full => k_is); (case ye0_Full => k_is); (case ye1_Full => k_is); (case ye2_Full => k_is); (case ye5_Full => k_is); (case s_Full_BadOrder => k_is); (case s_Full_BadWeb => k_is); (case s_Full_Broken => k_is); (case s_Full_Busy => k_is); (case s_Full_Full => k_is); (case s_Full_Held => k_is); (case s_Full_Last => k_is); (case s_Full_Long => k_is); (case s_Full_LookupError => k_is); (case s_Full_NoDeeds => k_is); (case s_Full_NoDoor => k_is); (case s_Full_NoEnd => k_is); (case s_Full_NoHouse => k_is); (case s_Full_NoMoment => k_is); (case s_Full_NoRoad => k_is); (case s_Full_NoRoads => k_is); (case s_Full_NoRoom => k_is); (case s_Full_NoStream => k_is); (case s_Full_NoText => k_is); (case s_Full_NothingBack => k_is); (case s_Full_TooGreat => k_is); (case s_Full_TooMany => k_is); (case s_Full_ValueError => k_is); (case s_Full_WebError => k_is); (case yk_Full => k_is); (case yx_Full => k_exc); (case yb_NoRoads => k_is); (case ye0_NoRoads => k_is); (case ye1_NoRoads => k_is); (case ye2_NoRoads => k_is); (case ye5_NoRoads => k_is); (case s_NoRoads_BadOrder => k_is); (case s_NoRoads_BadWeb => k_is); (case s_NoRoads_Broken => k_is); (case s_NoRoads_Busy => k_is); (case s_NoRoads_Full => k_is); (case s_NoRoads_Held => k_is); (case s_NoRoads_Last => k_is); (case s_NoRoads_Long => k_is); (case s_NoRoads_LookupError => k_is); (case s_NoRoads_NoDeeds => k_is); (case s_NoRoads_NoDoor => k_is); (case s_NoRoads_NoEnd => k_is); (case s_NoRoads_NoHouse => k_is); (case s_NoRoads_NoMoment => k_is); (case s_NoRoads_NoRoad => k_is); (case s_NoRoads_NoRoads => k_is); (case s_NoRoads_NoRoom => k_is); (case s_NoRoads_NoStream => k_is); (case s_NoRoads_NoText => k_is); (case s_NoRoads_NothingBack => k_is); (case s_NoRoads_TooGreat => k_is); (case s_NoRoads_TooMany => k_is); (case s_NoRoads_ValueError => k_is); (case s_NoRoads_WebError => k_is); (case yk_NoRoads => k_is); (case yx_NoRoads => k_exc); (case yb_BadOrder => k_is); (case ye0_BadOrder => k_is); (case ye1_BadOrder => k_is); (case ye2_BadOrder => k_is); (case ye5_BadOrder => k_is); (case s_BadOrder_BadOrder => k_is); (case s_BadOrder_BadWeb => k_is); (case s_BadOrder_Broken => k_is); (case s_BadOrder_Busy => k_is); (case s_BadOrder_Full => k_is); (case s_BadOrder_Held => k_is); (case s_BadOrder_Last => k_is); (case s_BadOrder_Long => k_is); (case s_BadOrder_LookupError => k_is); (case s_BadOrder_NoDeeds => k_is); (case s_BadOrder_NoDoor => k_is); (case s_BadOrder_NoEnd => k_is); (case s_BadOrder_NoHouse => k_is); (case s_BadOrder_NoMoment => k_is); (case s_BadOrder_NoRoad => k_is); (case s_BadOrder_NoRoads => k_is); (case s_BadOrder_NoRoom => k_is); (case s_BadOrder_NoStream => k_is); (case s_BadOrder_NoText => k_is); (case s_BadOrder_NothingBack => k_is); (case s_BadOrder_TooGreat => k_is); (case s_BadOrder_TooMany => k_is); (case s_BadOrder_ValueError => k_is); (case s_BadOrder_WebError => k_is); (case yk_BadOrder => k_is); (case yx_BadOrder => k_exc); (case yb_TooMany => k_is); (case ye0_TooMany => k_is); (case ye1_TooMany => k_is); (case ye2_TooMany => k_is); (case ye5_TooMany => k_is); (case s_TooMany_BadOrder => k_is); (case s_TooMany_BadWeb => k_is); (case s_TooMany_Broken => k_is); (case s_TooMany_Busy => k_is); (case s_TooMany_Full => k_is); (case s_TooMany_Held => k_is); (case s_TooMany_Last => k_is); (case s_TooMany_Long => k_is); (case s_TooMany_LookupError => k_is); (case s_TooMany_NoDeeds => k_is); (case s_TooMany_NoDoor => k_is); (case s_TooMany_NoEnd => k_is); (case s_TooMany_NoHouse => k_is); (case s_TooMany_NoMoment => k_is); (case s_TooMany_NoRoad => k_is); (case s_TooMany_NoRoads => k_is); (case s_TooMany_NoRoom => k_is); (case s_TooMany_NoStream => k_is); (case s_TooMany_NoText => k_is); (case s_TooMany_NothingBack => k_is); (case s_TooMany_TooGreat => k_is); (case s_TooMany_TooMany => k_is); (case s_TooMany_ValueError => k_is); (case s_TooMany_WebError => k_is); (case no_TooMany_bound => k_is); (case yk_TooMany => k_is); (case vl_TooMany => k_is); (case vo_TooMany => rfl); (case vs_TooMany => k_is); (case vi_TooMany => k_is); (case vt_TooMany => k_is); (case vf_TooMany => k_is); (case vc_TooMany => k_is); (case yb_Long => k_is); (case ye0_Long => k_is); (case ye1_Long => k_is); (case ye2_Long => k_is); (case ye5_Long => k_is); (case s_Long_BadOrder => k_is); (case s_Long_BadWeb => k_is); (case s_Long_Broken => k_is); (case s_Long_Busy => k_is); (case s_Long_Full => k_is); (case s_Long_Held => k_is); (case s_Long_Last => k_is); (case s_Long_Long => k_is); (case s_Long_LookupError => k_is); (case s_Long_NoDeeds => k_is); (case s_Long_NoDoor => k_is); (case s_Long_NoEnd => k_is); (case s_Long_NoHouse => k_is); (case s_Long_NoMoment => k_is); (case s_Long_NoRoad => k_is); (case s_Long_NoRoads => k_is); (case s_Long_NoRoom => k_is); (case s_Long_NoStream => k_is); (case s_Long_NoText => k_is); (case s_Long_NothingBack => k_is); (case s_Long_TooGreat => k_is); (case s_Long_TooMany => k_is); (case s_Long_ValueError => k_is); (case s_Long_WebError => k_is); (case yk_Long => k_is); (case yx_Long => k_exc); (case yb_Busy => k_is); (case ye0_Busy => k_is); (case ye1_Busy => k_is); (case ye2_Busy => k_is); (case ye5_Busy => k_is); (case s_Busy_BadOrder => k_is); (case s_Busy_BadWeb => k_is); (case s_Busy_Broken => k_is); (case s_Busy_Busy => k_is); (case s_Busy_Full => k_is); (case s_Busy_Held => k_is); (case s_Busy_Last => k_is); (case s_Busy_Long => k_is); (case s_Busy_LookupError => k_is); (case s_Busy_NoDeeds => k_is); (case s_Busy_NoDoor => k_is); (case s_Busy_NoEnd => k_is); (case s_Busy_NoHouse => k_is); (case s_Busy_NoMoment => k_is); (case s_Busy_NoRoad => k_is); (case s_Busy_NoRoads => k_is); (case s_Busy_NoRoom => k_is); (case s_Busy_NoStream => k_is); (case s_Busy_NoText => k_is); (case s_Busy_NothingBack => k_is); (case s_Busy_TooGreat => k_is); (case s_Busy_TooMany => k_is); (case s_Busy_ValueError => k_is); (case s_Busy_WebError => k_is); (case yk_Busy => k_is); (case yx_Busy => k_exc); (case yb_NothingBack => k_is); (case ye0_NothingBack => k_is); (case ye1_NothingBack => k_is); (case ye2_NothingBack => k_is); (case ye5_NothingBack => k_is); (case s_NothingBack_BadOrder => k_is); (case s_NothingBack_BadWeb => k_is); (case s_NothingBack_Broken => k_is); (case s_NothingBack_Busy => k_is); (case s_NothingBack_Full => k_is); (case s_NothingBack_Held => k_is); (case s_NothingBack_Last => k_is); (case s_NothingBack_Long => k_is); (case s_NothingBack_LookupError => k_is); (case s_NothingBack_NoDeeds => k_is); (case s_NothingBack_NoDoor => k_is); (case s_NothingBack_NoEnd => k_is); (case s_NothingBack_NoHouse => k_is); (case s_NothingBack_NoMoment => k_is); (case s_NothingBack_NoRoad => k_is); (case s_NothingBack_NoRoads => k_is); (case s_NothingBack_NoRoom => k_is); (case s_NothingBack_NoStream => k_is); (case s_NothingBack_NoText => k_is); (case s_NothingBack_NothingBack => k_is); (case s_NothingBack_TooGreat => k_is); (case s_NothingBack_TooMany => k_is); (case s_NothingBack_ValueError => k_is); (case s_NothingBack_WebError => k_is); (case yk_NothingBack => k_is); (case yx_NothingBack => k_exc); (case yb_NoDeeds => k_is); (case ye0_NoDeeds => k_is); (case ye1_NoDeeds => k_is); (case ye2_NoDeeds => k_is); (case ye5_NoDeeds => k_is); (case s_NoDeeds_BadOrder => k_is); (case s_NoDeeds_BadWeb => k_is); (case s_NoDeeds_Broken => k_is); (case s_NoDeeds_Busy => k_is); (case s_NoDeeds_Full => k_is); (case s_NoDeeds_Held => k_is); (case s_NoDeeds_Last => k_is); (case s_NoDeeds_Long => k_is); (case s_NoDeeds_LookupError => k_is); (case s_NoDeeds_NoDeeds => k_is); (case s_NoDeeds_NoDoor => k_is); (case s_NoDeeds_NoEnd => k_is); (case s_NoDeeds_NoHouse => k_is); (case s_NoDeeds_NoMoment => k_is); (case s_NoDeeds_NoRoad => k_is); (case s_NoDeeds_NoRoads => k_is); (case s_NoDeeds_NoRoom => k_is); (case s_NoDeeds_NoStream => k_is); (case s_NoDeeds_NoText => k_is); (case s_NoDeeds_NothingBack => k_is); (case s_NoDeeds_TooGreat => k_is); (case s_NoDeeds_TooMany => k_is); (case s_NoDeeds_ValueError => k_is); (case s_NoDeeds_WebError => k_is); (case yk_NoDeeds => k_is); (case yx_NoDeeds => k_exc); (case yb_Broken => k_is); (case ye0_Broken => k_is); (case ye1_Broken => k_is); (case ye2_Broken => k_is); (case ye5_Broken => k_is); (case s_Broken_BadOrder => k_is); (case s_Broken_BadWeb => k_is); (case s_Broken_Broken => k_is); (case s_Broken_Busy => k_is); (case s_Broken_Full => k_is); (case s_Broken_Held => k_is); (case s_Broken_Last => k_is); (case s_Broken_Long => k_is); (case s_Broken_LookupError => k_is); (case s_Broken_NoDeeds => k_is); (case s_Broken_NoDoor => k_is); (case s_Broken_NoEnd => k_is); (case s_Broken_NoHouse => k_is); (case s_Broken_NoMoment => k_is); (case s_Broken_NoRoad => k_is); (case s_Broken_NoRoads => k_is); (case s_Broken_NoRoom => k_is); (case s_Broken_NoStream => k_is); (case s_Broken_NoText => k_is); (case s_Broken_NothingBack => k_is); (case s_Broken_TooGreat => k_is); (case s_Broken_TooMany => k_is); (case s_Broken_ValueError => k_is); (case s_Broken_WebError => k_is); (case no_Broken_number => k_is); (case yk_Broken => k_is); (case vl_Broken => k_is); (case vo_Broken => rfl); (case vs_Broken => k_is); (case vi_Broken => k_is); (case vt_Broken => k_is); (case vf_Broken => k_is); (case vc_Broken => k_is); (case yb_Last => k_is); (case ye0_Last => k_is); (case ye1_Last => k_is); (case ye2_Last => k_is); (case ye5_Last => k_is); (case s_Last_BadOrder => k_is); (case s_Last_BadWeb => k_is); (case s_Last_Broken => k_is); (case s_Last_Busy => k_is); (case s_Last_Full => k_is); (case s_Last_Held => k_is); (case s_Last_Last => k_is); (case s_Last_Long => k_is); (case s_Last_LookupError => k_is); (case s_Last_NoDeeds => k_is); (case s_Last_NoDoor => k_is); (case s_Last_NoEnd => k_is); (case s_Last_NoHouse => k_is); (case s_Last_NoMoment => k_is); (case s_Last_NoRoad => k_is); (case s_Last_NoRoads => k_is); (case s_Last_NoRoom => k_is); (case s_Last_NoStream => k_is); (case s_Last_NoText => k_is); (case s_Last_NothingBack => k_is); (case s_Last_TooGreat => k_is); (case s_Last_TooMany => k_is); (case s_Last_ValueError => k_is); (case s_Last_WebError => k_is); (case yk_Last => k_is); (case yx_Last => k_exc); (case yb_Held => k_is); (case ye0_Held => k_is); (case ye1_Held => k_is); (case ye2_Held => k_is); (case ye5_Held => k_is); (case s_Held_BadOrder => k_is); (case s_Held_BadWeb => k_is); (case s_Held_Broken => k_is); (case s_Held_Busy => k_is); (case s_Held_Full => k_is); (case s_Held_Held => k_is); (case s_Held_Last => k_is); (case s_Held_Long => k_is); (case s_Held_LookupError => k_is); (case s_Held_NoDeeds => k_is); (case s_Held_NoDoor => k_is); (case s_Held_NoEnd => k_is); (case s_Held_NoHouse => k_is); (case s_Held_NoMoment => k_is); (case s_Held_NoRoad => k_is); (case s_Held_NoRoads => k_is); (case s_Held_NoRoom => k_is); (case s_Held_NoStream => k_is); (case s_Held_NoText => k_is); (case s_Held_NothingBack => k_is); (case s_Held_TooGreat => k_is); (case s_Held_TooMany => k_is); (case s_Held_ValueError => k_is); (case s_Held_WebError => k_is); (case yk_Held => k_is); (case yx_Held => k_exc); (case yb_NoRoom => k_is); (case ye0_NoRoom => k_is); (case ye1_NoRoom => k_is); (case ye2_NoRoom => k_is); (case ye5_NoRoom => k_is); (case s_NoRoom_BadOrder => k_is); (case s_NoRoom_BadWeb => k_is); (case s_NoRoom_Broken => k_is); (case s_NoRoom_Busy => k_is); (case s_NoRoom_Full => k_is); (case s_NoRoom_Held => k_is); (case s_NoRoom_Last => k_is); (case s_NoRoom_Long => k_is); (case s_NoRoom_LookupError => k_is); (case s_NoRoom_NoDeeds => k_is); (case s_NoRoom_NoDoor => k_is); (case s_NoRoom_NoEnd => k_is); (case s_NoRoom_NoHouse => k_is); (case s_NoRoom_NoMoment => k_is); (case s_NoRoom_NoRoad => k_is); (case s_NoRoom_NoRoads => k_is); (case s_NoRoom_NoRoom => k_is); (case s_NoRoom_NoStream => k_is); (case s_NoRoom_NoText => k_is); (case s_NoRoom_NothingBack => k_is); (case s_NoRoom_TooGreat => k_is); (case s_NoRoom_TooMany => k_is); (case s_NoRoom_ValueError => k_is); (case s_NoRoom_WebError => k_is); (case no_NoRoom_room => k_is); (case yk_NoRoom => k_is); (case vl_NoRoom => k_is); (case vo_NoRoom => rfl); (case vs_NoRoom => k_is); (case vi_NoRoom => k_is); (case vt_NoRoom => k_is); (case vf_NoRoom => k_is); (case vc_NoRoom => k_is); (case yb_NoStream => k_is); (case ye0_NoStream => k_is); (case ye1_NoStream => k_is); (case ye2_NoStream => k_is); (case ye5_NoStream => k_is); (case s_NoStream_BadOrder => k_is); (case s_NoStream_BadWeb => k_is); (case s_NoStream_Broken => k_is); (case s_NoStream_Busy => k_is); (case s_NoStream_Full => k_is); (case s_NoStream_Held => k_is); (case s_NoStream_Last => k_is); (case s_NoStream_Long => k_is); (case s_NoStream_LookupError => k_is); (case s_NoStream_NoDeeds => k_is); (case s_NoStream_NoDoor => k_is); (case s_NoStream_NoEnd => k_is); (case s_NoStream_NoHouse => k_is); (case s_NoStream_NoMoment => k_is); (case s_NoStream_NoRoad => k_is); (case s_NoStream_NoRoads => k_is); (case s_NoStream_NoRoom => k_is); (case s_NoStream_NoStream => k_is); (case s_NoStream_NoText => k_is); (case s_NoStream_NothingBack => k_is); (case s_NoStream_TooGreat => k_is); (case s_NoStream_TooMany => k_is); (case s_NoStream_ValueError => k_is); (case s_NoStream_WebError => k_is); (case no_NoStream_fault => k_is); (case yk_NoStream => k_is); (case vl_NoStream => k_is); (case vo_NoStream => rfl); (case vs_NoStream => k_is); (case vi_NoStream => k_is); (case vt_NoStream => k_is); (case vf_NoStream => k_is); (case vc_NoStream => k_is); (case yb_NoText => k_is); (case ye0_NoText => k_is); (case ye1_NoText => k_is); (case ye2_NoText => k_is); (case ye5_NoText => k_is); (case s_NoText_BadOrder => k_is); (case s_NoText_BadWeb => k_is); (case s_NoText_Broken => k_is); (case s_NoText_Busy => k_is); (case s_NoText_Full => k_is); (case s_NoText_Held => k_is); (case s_NoText_Last => k_is); (case s_NoText_Long => k_is); (case s_NoText_LookupError => k_is); (case s_NoText_NoDeeds => k_is); (case s_NoText_NoDoor => k_is); (case s_NoText_NoEnd => k_is); (case s_NoText_NoHouse => k_is); (case s_NoText_NoMoment => k_is); (case s_NoText_NoRoad => k_is); (case s_NoText_NoRoads => k_is); (case s_NoText_NoRoom => k_is); (case s_NoText_NoStream => k_is); (case s_NoText_NoText => k_is); (case s_NoText_NothingBack => k_is); (case s_NoText_TooGreat => k_is); (case s_NoText_TooMany => k_is); (case s_NoText_ValueError => k_is); (case s_NoText_WebError => k_is); (case no_NoText_line => k_is); (case yk_NoText => k_is); (case vl_NoText => k_is); (case vo_NoText => rfl); (case vs_NoText => k_is); (case vi_NoText => k_is); (case vt_NoText => k_is); (case vf_NoText => k_is); (case vc_NoText => k_is); (case yb_NoDoor => k_is); (case ye0_NoDoor => k_is); (case ye1_NoDoor => k_is); (case ye2_NoDoor => k_is); (case ye5_NoDoor => k_is); (case s_NoDoor_BadOrder => k_is); (case s_NoDoor_BadWeb => k_is); (case s_NoDoor_Broken => k_is); (case s_NoDoor_Busy => k_is); (case s_NoDoor_Full => k_is); (case s_NoDoor_Held => k_is); (case s_NoDoor_Last => k_is); (case s_NoDoor_Long => k_is); (case s_NoDoor_LookupError => k_is); (case s_NoDoor_NoDeeds => k_is); (case s_NoDoor_NoDoor => k_is); (case s_NoDoor_NoEnd => k_is); (case s_NoDoor_NoHouse => k_is); (case s_NoDoor_NoMoment => k_is); (case s_NoDoor_NoRoad => k_is); (case s_NoDoor_NoRoads => k_is); (case s_NoDoor_NoRoom => k_is); (case s_NoDoor_NoStream => k_is); (case s_NoDoor_NoText => k_is); (case s_NoDoor_NothingBack => k_is); (case s_NoDoor_TooGreat => k_is); (case s_NoDoor_TooMany => k_is); (case s_NoDoor_ValueError => k_is); (case s_NoDoor_WebError => k_is); (case no_NoDoor_road => k_is); (case yk_NoDoor => k_is); (case vl_NoDoor => k_is); (case vo_NoDoor => rfl); (case vs_NoDoor => k_is); (case vi_NoDoor => k_is); (case vt_NoDoor => k_is); (case vf_NoDoor => k_is); (case vc_NoDoor => k_is); (case yb_NoRoad => k_is); (case ye0_NoRoad => k_is); (case ye1_NoRoad => k_is); (case ye2_NoRoad => k_is); (case ye5_NoRoad => k_is); (case s_NoRoad_BadOrder => k_is); (case s_NoRoad_BadWeb => k_is); (case s_NoRoad_Broken => k_is); (case s_NoRoad_Busy => k_is); (case s_NoRoad_Full => k_is); (case s_NoRoad_Held => k_is); (case s_NoRoad_Last => k_is); (case s_NoRoad_Long => k_is); (case s_NoRoad_LookupError => k_is); (case s_NoRoad_NoDeeds => k_is); (case s_NoRoad_NoDoor => k_is); (case s_NoRoad_NoEnd => k_is); (case s_NoRoad_NoHouse => k_is); (case s_NoRoad_NoMoment => k_is); (case s_NoRoad_NoRoad => k_is); (case s_NoRoad_NoRoads => k_is); (case s_NoRoad_NoRoom => k_is); (case s_NoRoad_NoStream => k_is); (case s_NoRoad_NoText => k_is); (case s_NoRoad_NothingBack => k_is); (case s_NoRoad_TooGreat => k_is); (case s_NoRoad_TooMany => k_is); (case s_NoRoad_ValueError => k_is); (case s_NoRoad_WebError => k_is); (case no_NoRoad_road => k_is); (case yk_NoRoad => k_is); (case vl_NoRoad => k_is); (case vo_NoRoad => rfl); (case vs_NoRoad => k_is); (case vi_NoRoad => k_is); (case vt_NoRoad => k_is); (case vf_NoRoad => k_is); (case vc_NoRoad => k_is); (case yb_NoHouse => k_is); (case ye0_NoHouse => k_is); (case ye1_NoHouse => k_is); (case ye2_NoHouse => k_is); (case ye5_NoHouse => k_is); (case s_NoHouse_BadOrder => k_is); (case s_NoHouse_BadWeb => k_is); (case s_NoHouse_Broken => k_is); (case s_NoHouse_Busy => k_is); (case s_NoHouse_Full => k_is); (case s_NoHouse_Held => k_is); (case s_NoHouse_Last => k_is); (case s_NoHouse_Long => k_is); (case s_NoHouse_LookupError => k_is); (case s_NoHouse_NoDeeds => k_is); (case s_NoHouse_NoDoor => k_is); (case s_NoHouse_NoEnd => k_is); (case s_NoHouse_NoHouse => k_is); (case s_NoHouse_NoMoment => k_is); (case s_NoHouse_NoRoad => k_is); (case s_NoHouse_NoRoads => k_is); (case s_NoHouse_NoRoom => k_is); (case s_NoHouse_NoStream => k_is); (case s_NoHouse_NoText => k_is); (case s_NoHouse_NothingBack => k_is); (case s_NoHouse_TooGreat => k_is); (case s_NoHouse_TooMany => k_is); (case s_NoHouse_ValueError => k_is); (case s_NoHouse_WebError => k_is); (case no_NoHouse_house => k_is); (case yk_NoHouse => k_is); (case vl_NoHouse => k_is); (case vo_NoHouse => rfl); (case vs_NoHouse => k_is); (case vi_NoHouse => k_is); (case vt_NoHouse => k_is); (case vf_NoHouse => k_is); (case vc_NoHouse => k_is); (case yb_NoEnd => k_is); (case ye0_NoEnd => k_is); (case ye1_NoEnd => k_is); (case ye2_NoEnd => k_is); (case ye5_NoEnd => k_is); (case s_NoEnd_BadOrder => k_is); (case s_NoEnd_BadWeb => k_is); (case s_NoEnd_Broken => k_is); (case s_NoEnd_Busy => k_is); (case s_NoEnd_Full => k_is); (case s_NoEnd_Held => k_is); (case s_NoEnd_Last => k_is); (case s_NoEnd_Long => k_is); (case s_NoEnd_LookupError => k_is); (case s_NoEnd_NoDeeds => k_is); (case s_NoEnd_NoDoor => k_is); (case s_NoEnd_NoEnd => k_is); (case s_NoEnd_NoHouse => k_is); (case s_NoEnd_NoMoment => k_is); (case s_NoEnd_NoRoad => k_is); (case s_NoEnd_NoRoads => k_is); (case s_NoEnd_NoRoom => k_is); (case s_NoEnd_NoStream => k_is); (case s_NoEnd_NoText => k_is); (case s_NoEnd_NothingBack => k_is); (case s_NoEnd_TooGreat => k_is); (case s_NoEnd_TooMany => k_is); (case s_NoEnd_ValueError => k_is); (case s_NoEnd_WebError => k_is); (case no_NoEnd_end => k_is); (case yk_NoEnd => k_is); (case vl_NoEnd => k_is); (case vo_NoEnd => rfl); (case vs_NoEnd => k_is); (case vi_NoEnd => k_is); (case vt_NoEnd => k_is); (case vf_NoEnd => k_is); (case vc_NoEnd => k_is); (case yb_NoMoment => k_is); (case ye0_NoMoment => k_is); (case ye1_NoMoment => k_is); (case ye2_NoMoment => k_is); (case ye5_NoMoment => k_is); (case s_NoMoment_BadOrder => k_is); (case s_NoMoment_BadWeb => k_is); (case s_NoMoment_Broken => k_is); (case s_NoMoment_Busy => k_is); (case s_NoMoment_Full => k_is); (case s_NoMoment_Held => k_is); (case s_NoMoment_Last => k_is); (case s_NoMoment_Long => k_is); (case s_NoMoment_LookupError => k_is); (case s_NoMoment_NoDeeds => k_is); (case s_NoMoment_NoDoor => k_is); (case s_NoMoment_NoEnd => k_is); (case s_NoMoment_NoHouse => k_is); (case s_NoMoment_NoMoment => k_is); (case s_NoMoment_NoRoad => k_is); (case s_NoMoment_NoRoads => k_is); (case s_NoMoment_NoRoom => k_is); (case s_NoMoment_NoStream => k_is); (case s_NoMoment_NoText => k_is); (case s_NoMoment_NothingBack => k_is); (case s_NoMoment_TooGreat => k_is); (case s_NoMoment_TooMany => k_is); (case s_NoMoment_ValueError => k_is); (case s_NoMoment_WebError => k_is); (case no_NoMoment_number => k_is); (case yk_NoMoment => k_is); (case vl_NoMoment => k_is); (case vo_NoMoment => rfl); (case vs_NoMoment => k_is); (case vi_NoMoment => k_is); (case vt_NoMoment => k_is); (case vf_NoMoment => k_is); (case vc_NoMoment => k_is)
